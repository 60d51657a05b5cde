/- The bits of a word whose sign is extended, in plain numbers: a bit after the other is laid anew. (With it, merged: Alive · Rings · AddsAny · BitsW · Byte · Sext · Exp · Pick · ShRef · SxNum.) -/
import Derived.Test.YthfadinocadhaaaDoorM4
import Derived.Test.YthfadinocadhaaaDoorM2
import Derived.Test.YthfadinocadhaaaDoorM1
import Derived.Test.YthfadinocadhaaaDoorM3
import Derived.Laws.BitsAllLaws
import Derived.Laws.Bits64b
namespace Go.Proofs.YthfadinocadhaaaDoor
open Go.RowKit

/-- The worlds in which block b is still the word that it was, and nothing elder has turned. -/
def ClW (w : World) (b : Nat) (v0 v1 v2 v3 : Value) (wx : World) : Prop := Below w.heap.size w wx ∧ (wx.cell? ⟨b, 0, none⟩ = some v0 ∧ wx.cell? ⟨b, 1, none⟩ = some v1 ∧ wx.cell? ⟨b, 2, none⟩ = some v2 ∧ wx.cell? ⟨b, 3, none⟩ = some v3) ∧ b < wx.heap.size
theorem ClW.below {w wx w' : World} {b : Nat} {v0 v1 v2 v3 : Value} (h : ClW w b v0 v1 v2 v3 wx) (hb : Below wx.heap.size wx w') : ClW w b v0 v1 v2 v3 w' := by
  obtain ⟨h0, ⟨c0, c1, c2, c3⟩, hs⟩ := h
  exact ⟨h0.trans (hb.mono h0.size), ⟨(hb.cell hs).trans c0, (hb.cell hs).trans c1, (hb.cell hs).trans c2, (hb.cell hs).trans c3⟩, Nat.lt_of_lt_of_le hs hb.size⟩
theorem ClW.drew {w wx : World} {b : Nat} {v0 v1 v2 v3 : Value} (h : ClW w b v0 v1 v2 v3 wx) : ClW w b v0 v1 v2 v3 wx.drew := ⟨h.1.drew, h.2.1, h.2.2⟩

set_option maxRecDepth 100000 in
set_option maxHeartbeats 2000000 in
theorem lives_walk (w : World)
    (hO7 : ∀ w, Calls Tryd.prog 57 #[.int .u64 7] w fun e w' => e = .returned (.agg #[.int .u64 7, .int .u64 0, .int .u64 0, .int .u64 0]) ∧ Below w.heap.size w w')
    (hO6 : ∀ w, Calls Tryd.prog 57 #[.int .u64 6] w fun e w' => e = .returned (.agg #[.int .u64 6, .int .u64 0, .int .u64 0, .int .u64 0]) ∧ Below w.heap.size w w')
    (hO41 : ∀ w, Calls Tryd.prog 57 #[.int .u64 41] w fun e w' => e = .returned (.agg #[.int .u64 41, .int .u64 0, .int .u64 0, .int .u64 0]) ∧ Below w.heap.size w w')
    (hM : ∀ w, Calls Tryd.prog 17 #[.agg #[.int .u64 7, .int .u64 0, .int .u64 0, .int .u64 0], .agg #[.int .u64 6, .int .u64 0, .int .u64 0, .int .u64 0]] w fun e w' => e = .returned (.agg #[.int .u64 42, .int .u64 0, .int .u64 0, .int .u64 0]) ∧ Below w.heap.size w w')
    (hS : ∀ w, Calls Tryd.prog 52 #[.agg #[.int .u64 42, .int .u64 0, .int .u64 0, .int .u64 0]] w fun e w' => e = .returned (.tuple #[.int .u64 42, .bool true]) ∧ Below w.heap.size w w')
    (hD : ∀ w, Calls Tryd.prog 55 #[.agg #[.int .u64 42, .int .u64 0, .int .u64 0, .int .u64 0]] w fun e w' => e = .returned (.string ⟨#[52, 50]⟩) ∧ Below w.heap.size w w')
    (hC : ∀ w, Calls Tryd.prog 22 #[.agg #[.int .u64 42, .int .u64 0, .int .u64 0, .int .u64 0], .agg #[.int .u64 41, .int .u64 0, .int .u64 0, .int .u64 0]] w fun e w' => e = .returned (.int .i64 1) ∧ Below w.heap.size w w') :
    Calls Tryd.prog 19 #[] w fun e w' => e = .returned (.bool true) ∧ Below w.heap.size w w' := by
  have HO7 := Lib.hid hO7; clear hO7
  have HO6 := Lib.hid hO6; clear hO6
  have HO41 := Lib.hid hO41; clear hO41
  have HM := Lib.hid hM; clear hM
  have HS := Lib.hid hS; clear hS
  have HD := Lib.hid hD; clear hD
  have HC := Lib.hid hC; clear hC
  go_enter Tryd.func19, Tryd.ntmps19
  go_wp2_with fail
  refine (HO7.out _).mono ?_
  rintro e w1 ⟨rfl, b1⟩
  go_wp2_with fail
  refine (HO6.out _).mono ?_
  rintro e w2 ⟨rfl, hb⟩
  have b2 : Below w.heap.size w w2 := b1.trans (hb.mono b1.size)
  clear hb b1
  go_wp2_with fail
  refine (HM.out _).mono ?_
  rintro e w3 ⟨rfl, hb⟩
  have b3 : Below w.heap.size w w3 := b2.trans (hb.mono b2.size)
  clear hb b2
  go_wp2_with fail
  refine (HS.out _).mono ?_
  rintro e w4 ⟨rfl, hb⟩
  have hcl0 : ClW w w3.heap.size (.int .u64 42) (.int .u64 0) (.int .u64 0) (.int .u64 0) (w3.alloc (.cells #[.int .u64 42, .int .u64 0, .int .u64 0, .int .u64 0] 24)) := ⟨b3.alloc b3.size _, ⟨by go_cell, by go_cell, by go_cell, by go_cell⟩, by simp⟩
  have HCL := Lib.hid (hcl0.below hb)
  clear hcl0 hb b3
  go_wp2_with fail
  refine wp_region_quiet (C := ClW w w3.heap.size (.int .u64 42) (.int .u64 0) (.int .u64 0) (.int .u64 0)) (by kernel_rfl) (by kernel_rfl) HCL.out.drew ?_
  refine wpQuiet_step (fun K hK => ?_)
  go_simp
  first | refine ⟨_, fun _ _ => rfl, hK _ ?_⟩ | refine hK _ ?_
  clear hK K
  refine wpQuiet_step (fun K hK => ?_)
  go_simp
  first | refine ⟨_, fun _ _ => rfl, hK _ ?_⟩ | refine hK _ ?_
  clear hK K
  refine wpQuiet_step (fun K hK => ?_)
  go_simp
  first | refine ⟨_, fun _ _ => rfl, hK _ ?_⟩ | refine hK _ ?_
  clear hK K
  refine wpQuiet_step (fun K hK => ?_)
  go_simp
  first | refine ⟨_, fun _ _ => rfl, hK _ ?_⟩ | refine hK _ ?_
  clear hK K
  refine wpQuiet_step (fun K hK => ?_)
  go_simp
  first | refine ⟨_, fun _ _ => rfl, hK _ ?_⟩ | refine hK _ ?_
  clear hK K
  refine wpQuiet_step (fun K hK => ?_)
  go_simp
  first | refine ⟨_, fun _ _ => rfl, hK _ ?_⟩ | refine hK _ ?_
  clear hK K
  refine wpQuiet_step (fun K hK => ?_)
  rw [if_pos (by rfl)]
  refine ⟨.agg #[.int .u64 42, .int .u64 0, .int .u64 0, .int .u64 0], fun wx hC => ?_, hK _ ?_⟩
  · obtain ⟨-, ⟨c0, c1, c2, c3⟩, -⟩ := hC
    go_simp
  clear hK K
  refine wpQuiet_step (fun K hK => ?_)
  rw [if_pos (by rfl)]
  refine ⟨.string ⟨#[52, 50]⟩, fun wx hC => ?_, hK _ ?_⟩
  · go_simp
    refine (HD.out _).mono ?_
    rintro e w' ⟨rfl, hb⟩
    exact ⟨rfl, hC.below hb⟩
  clear hK K
  refine wpQuiet_step (fun K hK => ?_)
  go_simp
  first | refine ⟨_, fun _ _ => rfl, hK _ ?_⟩ | refine hK _ ?_
  clear hK K
  refine wpQuiet_step (fun K hK => ?_)
  go_simp
  first | refine ⟨_, fun _ _ => rfl, hK _ ?_⟩ | refine hK _ ?_
  clear hK K
  refine wpQuiet_step (fun K hK => ?_)
  go_simp
  first | refine ⟨_, fun _ _ => rfl, hK _ ?_⟩ | refine hK _ ?_
  clear hK K
  refine wpQuiet_step (fun K hK => ?_)
  rw [if_pos (by rfl)]
  refine ⟨.agg #[.int .u64 42, .int .u64 0, .int .u64 0, .int .u64 0], fun wx hC => ?_, hK _ ?_⟩
  · obtain ⟨-, ⟨c0, c1, c2, c3⟩, -⟩ := hC
    go_simp
  clear hK K
  refine wpQuiet_step (fun K hK => ?_)
  rw [if_pos (by rfl)]
  refine ⟨.agg #[.int .u64 41, .int .u64 0, .int .u64 0, .int .u64 0], fun wx hC => ?_, hK _ ?_⟩
  · go_simp
    refine (HO41.out _).mono ?_
    rintro e w' ⟨rfl, hb⟩
    exact ⟨rfl, hC.below hb⟩
  clear hK K
  refine wpQuiet_step (fun K hK => ?_)
  rw [if_pos (by rfl)]
  refine ⟨.int .i64 1, fun wx hC => ?_, hK _ ?_⟩
  · go_simp
    refine (HC.out _).mono ?_
    rintro e w' ⟨rfl, hb⟩
    exact ⟨rfl, hC.below hb⟩
  clear hK K
  refine wpQuiet_step (fun K hK => ?_)
  go_simp
  first | refine ⟨_, fun _ _ => rfl, hK _ ?_⟩ | refine hK _ ?_
  clear hK K
  refine wpQuiet_step (fun K hK => ?_)
  go_simp
  first | refine ⟨_, fun _ _ => rfl, hK _ ?_⟩ | refine hK _ ?_
  clear hK K
  refine wpQuiet_step (fun K hK => ?_)
  go_simp
  first | refine ⟨_, fun _ _ => rfl, hK _ ?_⟩ | refine hK _ ?_
  clear hK K
  refine wpQuiet_nil ?_
  intro wx hC
  have hB := hC.1
  clear hC
  go_wp2
  go_ret
  exact ⟨rfl, hB⟩

-- lives ANSWERS TRUE.
theorem lives_any (w : World) : Calls Tryd.prog 19 #[] w fun e w' => e = .returned (.bool true) ∧ Below w.heap.size w w' := by
  have o : ∀ n : Nat, ∀ w, Calls Tryd.prog 57 #[.int .u64 n] w fun e w' => e = .returned (.agg #[.int .u64 n, .int .u64 0, .int .u64 0, .int .u64 0]) ∧ Below w.heap.size w w' := fun n w => of_walk n w
  have e42 : wv (7 * 6) = .agg #[.int .u64 42, .int .u64 0, .int .u64 0, .int .u64 0] := wv_one (x := 42) (by omega)
  refine lives_walk w (o 7) (o 6) (o 41) (fun w => ?_) (fun w => small_yes 42 w) (fun w => decimal42 w (fun w => divide_small 42 10000000000000000000 (by omega) (by omega) (by omega) (by omega) w)) (fun w => ?_)
  · have h := mul_any 7 6 w
    rw [e42, wv_one (x := 7) (by omega), wv_one (x := 6) (by omega)] at h
    exact h
  · have h := cmp_any 42 41 w
    rw [wv_one (x := 42) (by omega), wv_one (x := 41) (by omega)] at h
    exact h
end Go.Proofs.YthfadinocadhaaaDoor
namespace Go.Proofs.YthfadinocadhaaaDoor
open Go.RowKit

theorem eqg_any (x : Nat) (o1 o2 : Operand) (w : World) : (eqGuard BinOp.eql 24 o1 o2 (wv x) (wv x)).run Tryd.prog w = .ok () w := by kernel_rfl
theorem eqb_any (x : Nat) (w : World) : (binOp BinOp.eql 24 (wv x) (wv x)).run Tryd.prog w = .ok (.bool true) w := by
  obtain ⟨x0, x1, x2, x3, -, -, -, -, ex, -⟩ := wv_parts x
  rw [ex]
  have h : ∀ w, (Op.equalIn 10000 24 (.agg #[.int .u64 x0, .int .u64 x1, .int .u64 x2, .int .u64 x3]) (.agg #[.int .u64 x0, .int .u64 x1, .int .u64 x2, .int .u64 x3])).run Tryd.prog w = .ok true w := fun w => by
    have := eqW x0 x1 x2 x3 x0 x1 x2 x3 w
    simpa using this
  go_simp

theorem ring_any (a b c : Nat) (w : World) : Calls Tryd.prog 10 #[wv a, wv b, wv c] w fun e w' => e = .returned (.bool true) ∧ Below w.heap.size w w' := by
  obtain ⟨a0, a1, a2, a3, -, -, -, -, ea, -⟩ := wv_parts a
  obtain ⟨b0, b1, b2, b3, -, -, -, -, eb, -⟩ := wv_parts b
  obtain ⟨c0, c1, c2, c3, -, -, -, -, ec, -⟩ := wv_parts c
  obtain ⟨s0, s1, s2, s3, -, -, -, -, es, -⟩ := wv_parts (a + b)
  have hs0 := fun w => add_any a b w
  have E1 : wv (a + b + (115792089237316195423570985008687907853269984665640564039457584007913129639936 - b % 115792089237316195423570985008687907853269984665640564039457584007913129639936)) = wv a := wv_congr (by omega)
  rw [ea, eb, es] at hs0
  have R := ring_walk a0 a1 a2 a3 b0 b1 b2 b3 c0 c1 c2 c3 s0 s1 s2 s3 (wv a) (wv b) (wv c) (wv (a + b)) (wv (a + b + c)) (wv (b + c)) (wv (a * b)) (wv (a * b * c)) (wv (b * c)) (wv ((a + b) * c)) (wv (a * c)) w hs0
    (eqb_any _) (eqg_any _) (eqb_any _) (eqg_any _) (eqb_any _) (eqg_any _) (eqb_any _) (eqg_any _) (eqb_any _) (eqg_any _) (eqb_any _) (eqg_any _) ea eb ec es
    (fun w => by rw [Nat.add_comm a b]; exact add_any b a w)
    (fun w => by have h := sub_any (a + b) b w; rw [E1] at h; exact h)
    (fun w => add_any (a + b) c w) (fun w => add_any b c w)
    (fun w => by rw [Nat.add_assoc]; exact add_any a (b + c) w)
    (fun w => mul_any a b w) (fun w => by rw [Nat.mul_comm a b]; exact mul_any b a w)
    (fun w => mul_any (a * b) c w) (fun w => mul_any b c w)
    (fun w => by rw [Nat.mul_assoc]; exact mul_any a (b * c) w)
    (fun w => mul_any (a + b) c w) (fun w => mul_any a c w)
    (fun w => by rw [Nat.add_mul]; exact add_any (a * c) (b * c) w) lives_any
  rw [ea, eb, ec]
  exact R
end Go.Proofs.YthfadinocadhaaaDoor
namespace Go.Proofs.YthfadinocadhaaaDoor
open Go.RowKit

/-- The worlds of a law over two words: nothing elder has turned; they lie in the call's first two blocks. -/
def CW2 (w : World) (x y : Nat) (wx : World) : Prop :=
  Below w.heap.size w wx ∧ wx.heap[w.heap.size]? = some (.cells (pw x) 24 (0, 0)) ∧ wx.heap[w.heap.size + 1]? = some (.cells (pw y) 24 (0, 0))
theorem CW2.below {w wx w' : World} {x y : Nat} (h : CW2 w x y wx) (hb : Below wx.heap.size wx w') : CW2 w x y w' := by
  have hl := (Array.getElem?_eq_some_iff.1 h.2.2).1
  exact ⟨h.1.trans (hb.mono h.1.size), (hb.block _ (by omega)).trans h.2.1, (hb.block _ hl).trans h.2.2⟩
theorem CW2.call {w : World} {x y : Nat} {f : FuncId} {args : Array Value} {v : Value} (h : ∀ w, Calls Tryd.prog f args w fun e w' => e = .returned v ∧ Below w.heap.size w w') : ∀ wx, CW2 w x y wx → Calls Tryd.prog f args wx fun e w' => e = .returned v ∧ CW2 w x y w' :=
  fun wx hC => (h wx).mono fun _ _ h => ⟨h.1, hC.below h.2⟩

set_option maxRecDepth 100000 in
set_option maxHeartbeats 2000000 in
theorem adds_any (x y : Nat) (w : World) : Calls Tryd.prog 3 #[wv x, wv y] w fun e w' => e = .returned (.bool true) ∧ Below w.heap.size w w' := by
  rw [wv_pw, wv_pw]
  have L1 := Lib.hid (fun wx (hC : (CW2 w x y) wx) => load_pw hC.2.1)
  have L2 := Lib.hid (fun wx (hC : (CW2 w x y) wx) => load_pw hC.2.2)
  have K1 := Lib.hid (CW2.call (w := w) (x := x) (y := y) (fun w => add_any x y w))
  have K2 := Lib.hid (CW2.call (w := w) (x := x) (y := y) (args := #[wv x, wv y]) (fun w => add_ref x y w))
  have K3 := Lib.hid (CW2.call (w := w) (x := x) (y := y) (fun w => sub_any x y w))
  have K4 := Lib.hid (CW2.call (w := w) (x := x) (y := y) (args := #[wv x, wv y]) (fun w => sub_ref x y w))
  have K5 := Lib.hid (CW2.call (w := w) (x := x) (y := y) (fun w => mul_any x y w))
  have K6 := Lib.hid (CW2.call (w := w) (x := x) (y := y) (args := #[wv x, wv y]) (fun w => mul_ref x y w))
  have K7 := Lib.hid (CW2.call (w := w) (x := x) (y := y) lives_any)
  go_enter Tryd.func3, Tryd.ntmps3
  go_wp2_with fail
  refine wp_region_quiet (C := (CW2 w x y)) (by kernel_rfl) (by kernel_rfl) ⟨Below.drew (by go_grown), heap_alloc2_old _ _ _, heap_alloc2_new _ _ _⟩ ?_
  with_reducible refine q_load 24 (.tmp 2) (.pointer (some ⟨w.heap.size, 0, none⟩)) (wv x) rfl (by kernel_rfl) (by kernel_rfl) L1.out ?_
  with_reducible refine q_load 24 (.tmp 3) (.pointer (some ⟨w.heap.size + 1, 0, none⟩)) (wv y) rfl (by kernel_rfl) (by kernel_rfl) L2.out ?_
  with_reducible refine q_call 13 #[wv x, wv y] (wv (x + y)) (by kernel_rfl) (fun _ => by kernel_rfl) K1.out ?_
  with_reducible refine q_load 24 (.tmp 2) (.pointer (some ⟨w.heap.size, 0, none⟩)) (wv x) rfl (by kernel_rfl) (by kernel_rfl) L1.out ?_
  with_reducible refine q_load 24 (.tmp 3) (.pointer (some ⟨w.heap.size + 1, 0, none⟩)) (wv y) rfl (by kernel_rfl) (by kernel_rfl) L2.out ?_
  with_reducible refine q_call 14 #[wv x, wv y] (wv (x + y)) (by kernel_rfl) (fun _ => by kernel_rfl) K2.out ?_
  with_reducible refine q_bin .eql 24 _ _ 24 (wv (x + y)) (wv (x + y)) (.bool true) rfl (by kernel_rfl) (by kernel_rfl) (by kernel_rfl) (eqg_any _ _ _) (eqb_any _) ?_
  with_reducible refine q_val (.bool true) (by kernel_rfl) (fun _ _ => by kernel_rfl) ?_
  with_reducible refine q_load 24 (.tmp 2) (.pointer (some ⟨w.heap.size, 0, none⟩)) (wv x) rfl (by kernel_rfl) (by kernel_rfl) L1.out ?_
  with_reducible refine q_load 24 (.tmp 3) (.pointer (some ⟨w.heap.size + 1, 0, none⟩)) (wv y) rfl (by kernel_rfl) (by kernel_rfl) L2.out ?_
  with_reducible refine q_call 15 #[wv x, wv y] (wv (x + (115792089237316195423570985008687907853269984665640564039457584007913129639936 - y % 115792089237316195423570985008687907853269984665640564039457584007913129639936))) (by kernel_rfl) (fun _ => by kernel_rfl) K3.out ?_
  with_reducible refine q_load 24 (.tmp 2) (.pointer (some ⟨w.heap.size, 0, none⟩)) (wv x) rfl (by kernel_rfl) (by kernel_rfl) L1.out ?_
  with_reducible refine q_load 24 (.tmp 3) (.pointer (some ⟨w.heap.size + 1, 0, none⟩)) (wv y) rfl (by kernel_rfl) (by kernel_rfl) L2.out ?_
  with_reducible refine q_call 16 #[wv x, wv y] (wv (x + (115792089237316195423570985008687907853269984665640564039457584007913129639936 - y % 115792089237316195423570985008687907853269984665640564039457584007913129639936))) (by kernel_rfl) (fun _ => by kernel_rfl) K4.out ?_
  with_reducible refine q_bin .eql 24 _ _ 24 (wv (x + (115792089237316195423570985008687907853269984665640564039457584007913129639936 - y % 115792089237316195423570985008687907853269984665640564039457584007913129639936))) (wv (x + (115792089237316195423570985008687907853269984665640564039457584007913129639936 - y % 115792089237316195423570985008687907853269984665640564039457584007913129639936))) (.bool true) rfl (by kernel_rfl) (by kernel_rfl) (by kernel_rfl) (eqg_any _ _ _) (eqb_any _) ?_
  with_reducible refine q_val (.bool true) (by kernel_rfl) (fun _ _ => by kernel_rfl) ?_
  with_reducible refine q_val (.bool true) (by kernel_rfl) (fun _ _ => by kernel_rfl) ?_
  with_reducible refine q_load 24 (.tmp 2) (.pointer (some ⟨w.heap.size, 0, none⟩)) (wv x) rfl (by kernel_rfl) (by kernel_rfl) L1.out ?_
  with_reducible refine q_load 24 (.tmp 3) (.pointer (some ⟨w.heap.size + 1, 0, none⟩)) (wv y) rfl (by kernel_rfl) (by kernel_rfl) L2.out ?_
  with_reducible refine q_call 17 #[wv x, wv y] (wv (x * y)) (by kernel_rfl) (fun _ => by kernel_rfl) K5.out ?_
  with_reducible refine q_load 24 (.tmp 2) (.pointer (some ⟨w.heap.size, 0, none⟩)) (wv x) rfl (by kernel_rfl) (by kernel_rfl) L1.out ?_
  with_reducible refine q_load 24 (.tmp 3) (.pointer (some ⟨w.heap.size + 1, 0, none⟩)) (wv y) rfl (by kernel_rfl) (by kernel_rfl) L2.out ?_
  with_reducible refine q_call 18 #[wv x, wv y] (wv (x * y)) (by kernel_rfl) (fun _ => by kernel_rfl) K6.out ?_
  with_reducible refine q_bin .eql 24 _ _ 24 (wv (x * y)) (wv (x * y)) (.bool true) rfl (by kernel_rfl) (by kernel_rfl) (by kernel_rfl) (eqg_any _ _ _) (eqb_any _) ?_
  with_reducible refine q_val (.bool true) (by kernel_rfl) (fun _ _ => by kernel_rfl) ?_
  with_reducible refine q_val (.bool true) (by kernel_rfl) (fun _ _ => by kernel_rfl) ?_
  with_reducible refine q_call 19 #[] (.bool true) (by kernel_rfl) (fun _ => by kernel_rfl) K7.out ?_
  with_reducible refine q_val (.bool true) (by kernel_rfl) (fun _ _ => by kernel_rfl) ?_
  with_reducible refine q_val (.bool true) (by kernel_rfl) (fun _ _ => by kernel_rfl) ?_
  with_reducible refine wpQuiet_nil ?_
  intro wx hC
  have hB := hC.1
  clear hC
  generalize hA : Act.put _ _ _ = A
  have h6 : A.tmps.getD 4 undef = Value.bool true := by subst hA; kernel_rfl
  have hd : A.defers = [] := by subst hA; kernel_rfl
  clear hA
  go_wp2
  (try simp only [Exit.inBlock, Exit.then])
  refine bodyPost_ret (v := .bool true) (by rw [results_tmp rfl _ _ _, h6]) hd ⟨rfl, hB⟩
end Go.Proofs.YthfadinocadhaaaDoor
namespace Go.Proofs.YthfadinocadhaaaDoor
open Go.RowKit

theorem and_one (z : Nat) (h : z < 18446744073709551616) : bits .and .u64 z 1 = ((z % 2 : Nat) : Int) := by
  have := bits_and_u64_nat z 1 h (by omega)
  rw [Nat.and_one_is_mod] at this
  exact this
theorem bit_of (x i p s : Nat) (hp : i / 64 = p) (hs : i % 64 = s) : pN x p / 2 ^ s % 2 = x % 115792089237316195423570985008687907853269984665640564039457584007913129639936 / 2 ^ i % 2 := by
  subst hp hs
  unfold pN
  have e : 18446744073709551616 = 2 ^ (i % 64) * 2 ^ (64 - i % 64) := by rw [← Nat.pow_add, show i % 64 + (64 - i % 64) = 64 by omega]
  have hd : (2 : Nat) ∣ 2 ^ (64 - i % 64) := by
    have := Nat.pow_dvd_pow 2 (show 1 ≤ 64 - i % 64 by omega)
    simpa using this
  rw [e, Nat.mod_mul_right_div_self, Nat.mod_mod_of_dvd _ hd, Nat.div_div_eq_div_mul, ← Nat.pow_add, show 64 * (i / 64) + i % 64 = i by omega]
theorem pw_at (x p : Nat) (h : p < 4) : (pw x)[p]? = some (.int .u64 (pN x p : Nat)) := by
  have c : p = 0 ∨ p = 1 ∨ p = 2 ∨ p = 3 := by omega
  rcases c with rfl | rfl | rfl | rfl
  · simp [pw, pN]
  · simp [pw, pN]; omega
  · simp [pw, pN]; omega
  · simp [pw, pN]; omega

set_option maxRecDepth 100000 in
set_option maxHeartbeats 1000000 in
theorem hasBit_any (x i : Nat) (hi : i < 256) (w : World) : Calls Tryd.prog 69 #[wv x, .int .i64 i] w fun e w' => e = .returned (.bool (decide (x % 115792089237316195423570985008687907853269984665640564039457584007913129639936 / 2 ^ i % 2 = 1))) ∧ Below w.heap.size w w' := by
  rw [wv_pw]
  obtain ⟨p, hp⟩ : ∃ p : Nat, (i : Int) / 64 = (p : Int) := ⟨i / 64, by omega⟩
  obtain ⟨s, hs⟩ : ∃ s : Nat, (i : Int) % 64 = (s : Int) := ⟨i % 64, by omega⟩
  have hv : bits .and .u64 (((pN x p : Nat) : Int) / 2 ^ s) 1 = ((x % 115792089237316195423570985008687907853269984665640564039457584007913129639936 / 2 ^ i % 2 : Nat) : Int) := by
    rw [← bit_of x i p s (by omega) (by omega)]
    have h := and_one (pN x p / 2 ^ s) (Nat.lt_of_le_of_lt (Nat.div_le_self _ _) (pN_le x p))
    simpa using h
  have hpl := pN_le x p
  have hi0 : (0 : Int) ≤ i := by omega
  have hi1 : (i : Int) < 256 := by omega
  have hp0 : (0 : Int) ≤ p := by omega
  have hp1 : (p : Int) < 4 := by omega
  have hs0 : (0 : Int) ≤ s := by omega
  have hs1 : (s : Int) < 64 := by omega
  have ca : (w.alloc (.cells (pw x) 24)).cell? ⟨w.heap.size, p, none⟩ = some (.int .u64 (pN x p : Nat)) := (cell_of_row _ _ p _ _ _ (heap_alloc_new w _)).trans (pw_at x p (by omega))
  generalize x % 115792089237316195423570985008687907853269984665640564039457584007913129639936 / 2 ^ i % 2 = c at *
  have hc : c = c := rfl
  have e : (((c : Nat) : Int) == 1) = decide (c = 1) := by
    rw [Bool.eq_iff_iff, beq_iff_eq, decide_eq_true_eq]; omega
  go_enter Tryd.func69, Tryd.ntmps69
  go_wp2
  go_ret
  exact ⟨rfl, by go_grown⟩

set_option maxRecDepth 100000 in
set_option maxHeartbeats 1000000 in
theorem bit_ref (x i : Nat) (hi : i < 256) (w : World) : Calls Tryd.prog 70 #[wv x, .int .i64 i] w fun e w' => e = .returned (.int .u64 ((x % 115792089237316195423570985008687907853269984665640564039457584007913129639936 / 2 ^ i % 2 : Nat) : Int)) ∧ Below w.heap.size w w' := by
  rw [wv_pw]
  obtain ⟨p, hp⟩ : ∃ p : Nat, (i : Int) / 64 = (p : Int) := ⟨i / 64, by omega⟩
  obtain ⟨s, hs⟩ : ∃ s : Nat, (i : Int) % 64 = (s : Int) := ⟨i % 64, by omega⟩
  have hv : bits .and .u64 (((pN x p : Nat) : Int) / 2 ^ s) 1 = ((x % 115792089237316195423570985008687907853269984665640564039457584007913129639936 / 2 ^ i % 2 : Nat) : Int) := by
    rw [← bit_of x i p s (by omega) (by omega)]
    have h := and_one (pN x p / 2 ^ s) (Nat.lt_of_le_of_lt (Nat.div_le_self _ _) (pN_le x p))
    simpa using h
  have hpl := pN_le x p
  have hi0 : (0 : Int) ≤ i := by omega
  have hi1 : (i : Int) < 256 := by omega
  have hp0 : (0 : Int) ≤ p := by omega
  have hp1 : (p : Int) < 4 := by omega
  have hs0 : (0 : Int) ≤ s := by omega
  have hs1 : (s : Int) < 64 := by omega
  have ca : (w.alloc (.cells (pw x) 24)).cell? ⟨w.heap.size, p, none⟩ = some (.int .u64 (pN x p : Nat)) := (cell_of_row _ _ p _ _ _ (heap_alloc_new w _)).trans (pw_at x p (by omega))
  generalize x % 115792089237316195423570985008687907853269984665640564039457584007913129639936 / 2 ^ i % 2 = c at *
  go_enter Tryd.func70, Tryd.ntmps70
  go_wp2
  go_ret
  exact ⟨rfl, by go_grown⟩

set_option maxRecDepth 100000 in
set_option maxHeartbeats 1000000 in
theorem len_0  (w : World) : Calls Tryd.prog 45 #[.agg #[.int .u64 0, .int .u64 0, .int .u64 0, .int .u64 0]] w fun e w' => e = .returned (.int .i64 0) ∧ Below w.heap.size w w' := by
  go_enter Tryd.func45, Tryd.ntmps45
  go_wp2
  refine wp_loop_rounds 5 ?_
  rw [rounds_succ]; go_wp2
  rw [rounds_succ]; go_wp2
  rw [rounds_succ]; go_wp2
  rw [rounds_succ]; go_wp2
  rw [rounds_succ]; go_wp2
  go_ret
  exact ⟨rfl, by go_grown⟩

set_option maxRecDepth 100000 in
set_option maxHeartbeats 1000000 in
theorem len_1 (a0 : Nat) (h0 : ((a0 : Int) != 0) = true) (hl0 : (a0 : Int) ≤ 18446744073709551615) (w : World) : Calls Tryd.prog 45 #[.agg #[.int .u64 a0, .int .u64 0, .int .u64 0, .int .u64 0]] w fun e w' => e = .returned (.int .i64 (Lib.bitLen a0 : Nat)) ∧ Below w.heap.size w w' := by
  have hL := fun w => Tryd.bits_Len64 (a0 : Int) w (by omega) hl0
  rw [Int.toNat_natCast] at hL
  have hb : Lib.bitLen a0 ≤ 64 := by
    by_cases h : a0 = 0
    · rw [h]; decide
    · obtain ⟨-, h2, -⟩ := bitLen_bounds a0 (by omega) h
      have h5 : ¬ 65 ≤ Lib.bitLen a0 := fun h => by
        have := Nat.pow_le_pow_right (n := 2) (by omega) (show 64 ≤ Lib.bitLen a0 - 1 by omega)
        omega
      omega
  generalize Lib.bitLen a0 = L at *
  have hb0 : (0 : Int) ≤ L := by omega
  have hb1 : (L : Int) ≤ 64 := by omega
  go_enter Tryd.func45, Tryd.ntmps45
  go_wp2
  refine wp_loop_rounds 4 ?_
  rw [rounds_succ]; go_wp2
  rw [rounds_succ]; go_wp2
  rw [rounds_succ]; go_wp2
  rw [rounds_succ]; go_wp2_with fail
  refine (hL _).mono ?_
  rintro e w' ⟨rfl, hw⟩
  subst hw
  go_wp2
  go_ret
  exact ⟨rfl, by go_grown⟩

set_option maxRecDepth 100000 in
set_option maxHeartbeats 1000000 in
theorem len_2 (a0 a1 : Nat) (h1 : ((a1 : Int) != 0) = true) (hl1 : (a1 : Int) ≤ 18446744073709551615) (w : World) : Calls Tryd.prog 45 #[.agg #[.int .u64 a0, .int .u64 a1, .int .u64 0, .int .u64 0]] w fun e w' => e = .returned (.int .i64 (64 + (Lib.bitLen a1 : Nat))) ∧ Below w.heap.size w w' := by
  have hL := fun w => Tryd.bits_Len64 (a1 : Int) w (by omega) hl1
  rw [Int.toNat_natCast] at hL
  have hb : Lib.bitLen a1 ≤ 64 := by
    by_cases h : a1 = 0
    · rw [h]; decide
    · obtain ⟨-, h2, -⟩ := bitLen_bounds a1 (by omega) h
      have h5 : ¬ 65 ≤ Lib.bitLen a1 := fun h => by
        have := Nat.pow_le_pow_right (n := 2) (by omega) (show 64 ≤ Lib.bitLen a1 - 1 by omega)
        omega
      omega
  generalize Lib.bitLen a1 = L at *
  have hb0 : (0 : Int) ≤ L := by omega
  have hb1 : (L : Int) ≤ 64 := by omega
  go_enter Tryd.func45, Tryd.ntmps45
  go_wp2
  refine wp_loop_rounds 3 ?_
  rw [rounds_succ]; go_wp2
  rw [rounds_succ]; go_wp2
  rw [rounds_succ]; go_wp2_with fail
  refine (hL _).mono ?_
  rintro e w' ⟨rfl, hw⟩
  subst hw
  go_wp2
  go_ret
  exact ⟨rfl, by go_grown⟩

set_option maxRecDepth 100000 in
set_option maxHeartbeats 1000000 in
theorem len_3 (a0 a1 a2 : Nat) (h2 : ((a2 : Int) != 0) = true) (hl2 : (a2 : Int) ≤ 18446744073709551615) (w : World) : Calls Tryd.prog 45 #[.agg #[.int .u64 a0, .int .u64 a1, .int .u64 a2, .int .u64 0]] w fun e w' => e = .returned (.int .i64 (128 + (Lib.bitLen a2 : Nat))) ∧ Below w.heap.size w w' := by
  have hL := fun w => Tryd.bits_Len64 (a2 : Int) w (by omega) hl2
  rw [Int.toNat_natCast] at hL
  have hb : Lib.bitLen a2 ≤ 64 := by
    by_cases h : a2 = 0
    · rw [h]; decide
    · obtain ⟨-, h2, -⟩ := bitLen_bounds a2 (by omega) h
      have h5 : ¬ 65 ≤ Lib.bitLen a2 := fun h => by
        have := Nat.pow_le_pow_right (n := 2) (by omega) (show 64 ≤ Lib.bitLen a2 - 1 by omega)
        omega
      omega
  generalize Lib.bitLen a2 = L at *
  have hb0 : (0 : Int) ≤ L := by omega
  have hb1 : (L : Int) ≤ 64 := by omega
  go_enter Tryd.func45, Tryd.ntmps45
  go_wp2
  refine wp_loop_rounds 2 ?_
  rw [rounds_succ]; go_wp2
  rw [rounds_succ]; go_wp2_with fail
  refine (hL _).mono ?_
  rintro e w' ⟨rfl, hw⟩
  subst hw
  go_wp2
  go_ret
  exact ⟨rfl, by go_grown⟩

set_option maxRecDepth 100000 in
set_option maxHeartbeats 1000000 in
theorem len_4 (a0 a1 a2 a3 : Nat) (h3 : ((a3 : Int) != 0) = true) (hl3 : (a3 : Int) ≤ 18446744073709551615) (w : World) : Calls Tryd.prog 45 #[.agg #[.int .u64 a0, .int .u64 a1, .int .u64 a2, .int .u64 a3]] w fun e w' => e = .returned (.int .i64 (192 + (Lib.bitLen a3 : Nat))) ∧ Below w.heap.size w w' := by
  have hL := fun w => Tryd.bits_Len64 (a3 : Int) w (by omega) hl3
  rw [Int.toNat_natCast] at hL
  have hb : Lib.bitLen a3 ≤ 64 := by
    by_cases h : a3 = 0
    · rw [h]; decide
    · obtain ⟨-, h2, -⟩ := bitLen_bounds a3 (by omega) h
      have h5 : ¬ 65 ≤ Lib.bitLen a3 := fun h => by
        have := Nat.pow_le_pow_right (n := 2) (by omega) (show 64 ≤ Lib.bitLen a3 - 1 by omega)
        omega
      omega
  generalize Lib.bitLen a3 = L at *
  have hb0 : (0 : Int) ≤ L := by omega
  have hb1 : (L : Int) ≤ 64 := by omega
  go_enter Tryd.func45, Tryd.ntmps45
  go_wp2
  refine wp_loop_rounds 1 ?_
  rw [rounds_succ]; go_wp2_with fail
  refine (hL _).mono ?_
  rintro e w' ⟨rfl, hw⟩
  subst hw
  go_wp2
  go_ret
  exact ⟨rfl, by go_grown⟩
end Go.Proofs.YthfadinocadhaaaDoor
namespace Go.Proofs.YthfadinocadhaaaDoor
open Go.RowKit

theorem wv_small {x : Nat} (h : x < 18446744073709551616) : wv x = .agg #[.int .u64 x, .int .u64 0, .int .u64 0, .int .u64 0] := by
  have := wv_n4 (a0 := x) (a1 := 0) (a2 := 0) (a3 := 0) h (by omega) (by omega) (by omega)
  rw [show n4 x 0 0 0 = x by unfold n4; omega] at this
  exact this
theorem wv_zero : wv 0 = .agg #[.int .u64 0, .int .u64 0, .int .u64 0, .int .u64 0] := by kernel_rfl

set_option maxRecDepth 100000 in
set_option maxHeartbeats 1000000 in
theorem byte_in (k0 k1 k2 k3 a0 a1 a2 a3 n y : Nat) (V : Value) (hn : (n : Int) ≤ 31) (hy : (y : Int) ≤ 255) (w : World)
    (hS : ∀ w, Calls Tryd.prog 52 #[.agg #[.int .u64 k0, .int .u64 k1, .int .u64 k2, .int .u64 k3]] w fun e w' => e = .returned (.tuple #[.int .u64 n, .bool true]) ∧ Below w.heap.size w w')
    (hB : ∀ w, Calls Tryd.prog 50 #[.agg #[.int .u64 a0, .int .u64 a1, .int .u64 a2, .int .u64 a3]] w fun e w' => e = .returned V ∧ Below w.heap.size w w')
    (hI : ∀ w, (Instr.index 36 V (.int .u64 n)).run Tryd.prog w = .ok (.int .u8 y) w) :
    Calls Tryd.prog 35 #[.agg #[.int .u64 k0, .int .u64 k1, .int .u64 k2, .int .u64 k3], .agg #[.int .u64 a0, .int .u64 a1, .int .u64 a2, .int .u64 a3]] w fun e w' => e = .returned (.agg #[.int .u64 y, .int .u64 0, .int .u64 0, .int .u64 0]) ∧ Below w.heap.size w w' := by
  have hO := fun w => of_walk y w
  have hy0 : (0 : Int) ≤ y := by omega
  go_enter Tryd.func35, Tryd.ntmps35
  go_wp2_with fail
  refine (hS _).mono ?_
  rintro e w1 ⟨rfl, hb⟩
  obtain ⟨y0, -, -⟩ := after1 (b := w.heap.size + 1) (i := 0) (v := .int .u64 a0) hb (by first | (simp; done) | (simp; omega)) (by go_cell) (by go_cell)
  obtain ⟨y1, -, -⟩ := after1 (b := w.heap.size + 1) (i := 1) (v := .int .u64 a1) hb (by first | (simp; done) | (simp; omega)) (by go_cell) (by go_cell)
  obtain ⟨y2, -, -⟩ := after1 (b := w.heap.size + 1) (i := 2) (v := .int .u64 a2) hb (by first | (simp; done) | (simp; omega)) (by go_cell) (by go_cell)
  obtain ⟨y3, -, -⟩ := after1 (b := w.heap.size + 1) (i := 3) (v := .int .u64 a3) hb (by first | (simp; done) | (simp; omega)) (by go_cell) (by go_cell)
  obtain ⟨⟨q0, q1, q2, q3⟩, ⟨f0, f1, f2, f3⟩, z, b⟩ := after4 (w := w) (B := w.heap.size) (w.heap.size + 1 + 1) hb (by go_grown) (by simp; omega) (by simp) (by go_cell) (by go_cell) (by go_cell) (by go_cell) (by go_cell) (by go_cell) (by go_cell) (by go_cell)
  clear hb
  go_wp2_with fail
  refine (hB _).mono ?_
  rintro e w2 ⟨rfl, hb⟩
  obtain ⟨⟨r0, r1, r2, r3⟩, ⟨g0, g1, g2, g3⟩, h, c⟩ := after4 (w := w) (B := w.heap.size) (w.heap.size + 1 + 1) hb b b.size z q0 q1 q2 q3 f0 f1 f2 f3
  clear hb q0 q1 q2 q3 f0 f1 f2 f3 z y0 y1 y2 y3
  go_wp2_with fail
  refine (hO _).mono ?_
  rintro e w3 ⟨rfl, hb⟩
  obtain ⟨⟨s0, s1, s2, s3⟩, ⟨t0, t1, t2, t3⟩, u, d⟩ := after4 (w := w) (B := w.heap.size) (w.heap.size + 1 + 1) hb c c.size h r0 r1 r2 r3 g0 g1 g2 g3
  clear hb r0 r1 r2 r3 g0 g1 g2 g3 h
  go_wp2
  refine bodyPost_ret (by simp [results, Tryd.results35, go_sem, s0, s1, s2, s3]; try rfl) rfl ⟨rfl, ?_⟩
  go_grown

set_option maxRecDepth 100000 in
set_option maxHeartbeats 1000000 in
theorem byte_out (k0 k1 k2 k3 n : Nat) (Va : Value) (a0 a1 a2 a3 : Nat) (ea : Va = .agg #[.int .u64 a0, .int .u64 a1, .int .u64 a2, .int .u64 a3]) (hn : (31 : Int) < n) (w : World)
    (hS : ∀ w, Calls Tryd.prog 52 #[.agg #[.int .u64 k0, .int .u64 k1, .int .u64 k2, .int .u64 k3]] w fun e w' => e = .returned (.tuple #[.int .u64 n, .bool true]) ∧ Below w.heap.size w w') :
    Calls Tryd.prog 35 #[.agg #[.int .u64 k0, .int .u64 k1, .int .u64 k2, .int .u64 k3], Va] w fun e w' => e = .returned (.agg #[.int .u64 0, .int .u64 0, .int .u64 0, .int .u64 0]) ∧ Below w.heap.size w w' := by
  subst ea
  go_enter Tryd.func35, Tryd.ntmps35
  go_wp2_with fail
  refine (hS _).mono ?_
  rintro e w1 ⟨rfl, hb⟩
  obtain ⟨⟨q0, q1, q2, q3⟩, ⟨f0, f1, f2, f3⟩, z, b⟩ := after4 (w := w) (B := w.heap.size) (w.heap.size + 1 + 1) hb (by go_grown) (by simp; omega) (by simp) (by go_cell) (by go_cell) (by go_cell) (by go_cell) (by go_cell) (by go_cell) (by go_cell) (by go_cell)
  clear hb
  go_wp2
  refine bodyPost_ret (by simp [results, Tryd.results35, go_sem, q0, q1, q2, q3]; try rfl) rfl ⟨rfl, ?_⟩
  go_grown

set_option maxRecDepth 100000 in
set_option maxHeartbeats 1000000 in
theorem byte_far (k0 k1 k2 k3 : Nat) (Va : Value) (a0 a1 a2 a3 : Nat) (ea : Va = .agg #[.int .u64 a0, .int .u64 a1, .int .u64 a2, .int .u64 a3]) (w : World)
    (hS : ∀ w, Calls Tryd.prog 52 #[.agg #[.int .u64 k0, .int .u64 k1, .int .u64 k2, .int .u64 k3]] w fun e w' => e = .returned (.tuple #[.int .u64 0, .bool false]) ∧ Below w.heap.size w w') :
    Calls Tryd.prog 35 #[.agg #[.int .u64 k0, .int .u64 k1, .int .u64 k2, .int .u64 k3], Va] w fun e w' => e = .returned (.agg #[.int .u64 0, .int .u64 0, .int .u64 0, .int .u64 0]) ∧ Below w.heap.size w w' := by
  subst ea
  go_enter Tryd.func35, Tryd.ntmps35
  go_wp2_with fail
  refine (hS _).mono ?_
  rintro e w1 ⟨rfl, hb⟩
  obtain ⟨⟨q0, q1, q2, q3⟩, ⟨f0, f1, f2, f3⟩, z, b⟩ := after4 (w := w) (B := w.heap.size) (w.heap.size + 1 + 1) hb (by go_grown) (by simp; omega) (by simp) (by go_cell) (by go_cell) (by go_cell) (by go_cell) (by go_cell) (by go_cell) (by go_cell) (by go_cell)
  clear hb
  go_wp2
  refine bodyPost_ret (by simp [results, Tryd.results35, go_sem, q0, q1, q2, q3]; try rfl) rfl ⟨rfl, ?_⟩
  go_grown

/-- What Byte comes to. -/
def byteN (k x : Nat) : Nat := if k % 115792089237316195423570985008687907853269984665640564039457584007913129639936 ≤ 31 then bt x (k % 115792089237316195423570985008687907853269984665640564039457584007913129639936) else 0
-- WHAT Byte COMES TO.
theorem byte_any (k x : Nat) (w : World) :
    Calls Tryd.prog 35 #[wv k, wv x] w fun e w' => e = .returned (wv (byteN k x)) ∧ Below w.heap.size w w' := by
  have hS := fun w => small_any k w
  have hB := fun w => bytes_any x w
  obtain ⟨k0, k1, k2, k3, -, -, -, -, ek, -⟩ := wv_parts k
  obtain ⟨a0, a1, a2, a3, -, -, -, -, ea, -⟩ := wv_parts x
  unfold byteN
  generalize k % 115792089237316195423570985008687907853269984665640564039457584007913129639936 = n at *
  rw [ek] at hS
  rw [ek]
  by_cases h1 : n < 18446744073709551616
  · rw [if_pos h1, decide_eq_true h1] at hS
    by_cases h2 : n ≤ 31
    · rw [if_pos h2]
      rw [ea] at hB
      rw [ea]
      rw [wv_small (by have := bt_le x n; omega)]
      exact byte_in k0 k1 k2 k3 a0 a1 a2 a3 n (bt x n) _ (by omega) (by have := bt_le x n; omega) w hS hB (fun w => index32 (bt x) n (by omega) w)
    · rw [if_neg h2, wv_zero]
      exact byte_out k0 k1 k2 k3 n _ a0 a1 a2 a3 ea (by omega) w hS
  · rw [if_neg h1, decide_eq_false h1] at hS
    rw [if_neg (by omega), wv_zero]
    exact byte_far k0 k1 k2 k3 _ a0 a1 a2 a3 ea w hS
end Go.Proofs.YthfadinocadhaaaDoor
namespace Go.Proofs.YthfadinocadhaaaDoor
open Go.RowKit

/-- Four cells that may be written. -/
def Free4 (B : Nat) (wx : World) : Prop := wx.frozen? ⟨B, 0, none⟩ = false ∧ wx.frozen? ⟨B, 1, none⟩ = false ∧ wx.frozen? ⟨B, 2, none⟩ = false ∧ wx.frozen? ⟨B, 3, none⟩ = false
theorem Free4.below {B : Nat} {wx w' : World} (h : Free4 B wx) (hb : Below wx.heap.size wx w') (hB : B < wx.heap.size) : Free4 B w' :=
  ⟨(hb.frozen hB).trans h.1, (hb.frozen hB).trans h.2.1, (hb.frozen hB).trans h.2.2.1, (hb.frozen hB).trans h.2.2.2⟩

set_option maxRecDepth 100000 in
set_option maxHeartbeats 1000000 in
theorem sext_in (k0 k1 k2 k3 a0 a1 a2 a3 n s p0 p1 p2 p3 : Nat) (Va Vs Vy : Value) (ea : Va = .agg #[.int .u64 a0, .int .u64 a1, .int .u64 a2, .int .u64 a3]) (es : Vs = .agg #[.int .u64 s, .int .u64 0, .int .u64 0, .int .u64 0]) (hn : (n : Int) ≤ 30) (hs : 8 * (31 - (n : Int)) = (s : Int)) (w : World)
    (hS : ∀ w, Calls Tryd.prog 52 #[.agg #[.int .u64 k0, .int .u64 k1, .int .u64 k2, .int .u64 k3]] w fun e w' => e = .returned (.tuple #[.int .u64 n, .bool true]) ∧ Below w.heap.size w w')
    (hL : ∀ w, Calls Tryd.prog 37 #[Vs, Va] w fun e w' => e = .returned Vy ∧ Below w.heap.size w w')
    (hR : ∀ w, Calls Tryd.prog 41 #[Vs, Vy] w fun e w' => e = .returned (.agg #[.int .u64 p0, .int .u64 p1, .int .u64 p2, .int .u64 p3]) ∧ Below w.heap.size w w') :
    Calls Tryd.prog 33 #[.agg #[.int .u64 k0, .int .u64 k1, .int .u64 k2, .int .u64 k3], .agg #[.int .u64 a0, .int .u64 a1, .int .u64 a2, .int .u64 a3]] w fun e w' => e = .returned (.agg #[.int .u64 p0, .int .u64 p1, .int .u64 p2, .int .u64 p3]) ∧ Below w.heap.size w w' := by
  have hO := fun w => of_walk s w
  have hn0 : (0 : Int) ≤ n := by omega
  have HL := Lib.hid hL; clear hL
  have HR := Lib.hid hR; clear hR
  have EA := Lib.hid ea; clear ea
  have ES := Lib.hid es; clear es
  go_enter Tryd.func33, Tryd.ntmps33
  go_wp2_with fail
  refine (hS _).mono ?_
  rintro e w1 ⟨rfl, hb⟩
  obtain ⟨y0, -, -⟩ := after1 (b := w.heap.size + 1) (i := 0) (v := .int .u64 a0) hb (by first | (simp; done) | (simp; omega)) (by go_cell) (by go_cell)
  obtain ⟨y1, -, -⟩ := after1 (b := w.heap.size + 1) (i := 1) (v := .int .u64 a1) hb (by first | (simp; done) | (simp; omega)) (by go_cell) (by go_cell)
  obtain ⟨y2, -, -⟩ := after1 (b := w.heap.size + 1) (i := 2) (v := .int .u64 a2) hb (by first | (simp; done) | (simp; omega)) (by go_cell) (by go_cell)
  obtain ⟨y3, -, -⟩ := after1 (b := w.heap.size + 1) (i := 3) (v := .int .u64 a3) hb (by first | (simp; done) | (simp; omega)) (by go_cell) (by go_cell)
  obtain ⟨⟨q0, q1, q2, q3⟩, ⟨f0, f1, f2, f3⟩, z, b⟩ := after4 (w := w) (B := w.heap.size) (w.heap.size + 1 + 1) hb (by go_grown) (by simp; omega) (by simp) (by go_cell) (by go_cell) (by go_cell) (by go_cell) (by go_cell) (by go_cell) (by go_cell) (by go_cell)
  clear hb
  go_wp2_with fail
  refine (hO _).mono ?_
  rintro e w2 ⟨rfl, hb⟩
  have hz1 : w.heap.size + 1 < w1.heap.size := by omega
  have hA : Holds4 (w.heap.size + 1) (.int .u64 a0) (.int .u64 a1) (.int .u64 a2) (.int .u64 a3) w2 := Holds4.below ⟨y0, y1, y2, y3⟩ hb hz1
  obtain ⟨m0, m1, m2, m3⟩ := hA
  obtain ⟨⟨r0, r1, r2, r3⟩, ⟨g0, g1, g2, g3⟩, h, c⟩ := after4 (w := w) (B := w.heap.size) (w.heap.size + 1 + 1) hb b b.size z q0 q1 q2 q3 f0 f1 f2 f3
  have hfz : ∀ (W : World) (p : Addr), W.frozen? p = false → p.block < W.heap.size → (W.alloc (.cells #[.int .u64 s, .int .u64 0, .int .u64 0, .int .u64 0] 24)).frozen? p = false := fun W p h0 h1 => (World.frozen?_alloc_old _ _ _ (Nat.ne_of_lt h1)).trans h0
  have hz : w.heap.size + 1 + 1 < w2.heap.size := h
  clear hb q0 q1 q2 q3 f0 f1 f2 f3 z y0 y1 y2 y3 hz1
  have hz1 : w.heap.size + 1 < w2.heap.size := by omega
  have hcl : (ClG w w2.heap.size (fun wx => Holds4 (w.heap.size + 1) (.int .u64 a0) (.int .u64 a1) (.int .u64 a2) (.int .u64 a3) wx ∧ Holds4 w2.heap.size (.int .u64 s) (.int .u64 0) (.int .u64 0) (.int .u64 0) wx ∧ (Holds4 (w.heap.size + 1 + 1) (.int .u64 0) (.int .u64 0) (.int .u64 0) (.int .u64 0) wx ∧ Free4 (w.heap.size + 1 + 1) wx))) (w2.alloc (.cells #[.int .u64 s, .int .u64 0, .int .u64 0, .int .u64 0] 24)) := ⟨by go_grown, by simp, ⟨by go_cell, by go_cell, by go_cell, by go_cell⟩, ⟨by go_cell, by go_cell, by go_cell, by go_cell⟩, ⟨by go_cell, by go_cell, by go_cell, by go_cell⟩, hfz w2 _ g0 hz, hfz w2 _ g1 hz, hfz w2 _ g2 hz, hfz w2 _ g3 hz⟩
  have hkeep : ∀ wx w', w2.heap.size < wx.heap.size → Below wx.heap.size wx w' → (fun wx => Holds4 (w.heap.size + 1) (.int .u64 a0) (.int .u64 a1) (.int .u64 a2) (.int .u64 a3) wx ∧ Holds4 w2.heap.size (.int .u64 s) (.int .u64 0) (.int .u64 0) (.int .u64 0) wx ∧ (Holds4 (w.heap.size + 1 + 1) (.int .u64 0) (.int .u64 0) (.int .u64 0) (.int .u64 0) wx ∧ Free4 (w.heap.size + 1 + 1) wx)) wx → (fun wx => Holds4 (w.heap.size + 1) (.int .u64 a0) (.int .u64 a1) (.int .u64 a2) (.int .u64 a3) wx ∧ Holds4 w2.heap.size (.int .u64 s) (.int .u64 0) (.int .u64 0) (.int .u64 0) wx ∧ (Holds4 (w.heap.size + 1 + 1) (.int .u64 0) (.int .u64 0) (.int .u64 0) (.int .u64 0) wx ∧ Free4 (w.heap.size + 1 + 1) wx)) w' := fun wx w' ht hb ⟨h1, h2, h3, h4⟩ => ⟨h1.below hb (by omega), h2.below hb (by omega), h3.below hb (by omega), h4.below hb (by omega)⟩
  have HCL := Lib.hid hcl; clear hcl
  have HLs : ∀ wx, (ClG w w2.heap.size (fun wx => Holds4 (w.heap.size + 1) (.int .u64 a0) (.int .u64 a1) (.int .u64 a2) (.int .u64 a3) wx ∧ Holds4 w2.heap.size (.int .u64 s) (.int .u64 0) (.int .u64 0) (.int .u64 0) wx ∧ (Holds4 (w.heap.size + 1 + 1) (.int .u64 0) (.int .u64 0) (.int .u64 0) (.int .u64 0) wx ∧ Free4 (w.heap.size + 1 + 1) wx))) wx → (Instr.loadAt 24 (.pointer (some ⟨w2.heap.size, 0, none⟩))).run Tryd.prog wx = .ok Vs wx := fun wx hC => by rw [ES.out]; exact load4 _ hC.2.2.2.1
  have HLa : ∀ wx, (ClG w w2.heap.size (fun wx => Holds4 (w.heap.size + 1) (.int .u64 a0) (.int .u64 a1) (.int .u64 a2) (.int .u64 a3) wx ∧ Holds4 w2.heap.size (.int .u64 s) (.int .u64 0) (.int .u64 0) (.int .u64 0) wx ∧ (Holds4 (w.heap.size + 1 + 1) (.int .u64 0) (.int .u64 0) (.int .u64 0) (.int .u64 0) wx ∧ Free4 (w.heap.size + 1 + 1) wx))) wx → (Instr.loadAt 24 (.pointer (some ⟨w.heap.size + 1, 0, none⟩))).run Tryd.prog wx = .ok Va wx := fun wx hC => by rw [EA.out]; exact load4 _ hC.2.2.1
  have HC1 : ∀ wx, (ClG w w2.heap.size (fun wx => Holds4 (w.heap.size + 1) (.int .u64 a0) (.int .u64 a1) (.int .u64 a2) (.int .u64 a3) wx ∧ Holds4 w2.heap.size (.int .u64 s) (.int .u64 0) (.int .u64 0) (.int .u64 0) wx ∧ (Holds4 (w.heap.size + 1 + 1) (.int .u64 0) (.int .u64 0) (.int .u64 0) (.int .u64 0) wx ∧ Free4 (w.heap.size + 1 + 1) wx))) wx → Calls Tryd.prog 37 #[Vs, Va] wx fun e w' => e = .returned Vy ∧ (ClG w w2.heap.size (fun wx => Holds4 (w.heap.size + 1) (.int .u64 a0) (.int .u64 a1) (.int .u64 a2) (.int .u64 a3) wx ∧ Holds4 w2.heap.size (.int .u64 s) (.int .u64 0) (.int .u64 0) (.int .u64 0) wx ∧ (Holds4 (w.heap.size + 1 + 1) (.int .u64 0) (.int .u64 0) (.int .u64 0) (.int .u64 0) wx ∧ Free4 (w.heap.size + 1 + 1) wx))) w' := fun wx hC => (HL.out wx).mono fun _ _ h => ⟨h.1, hC.below hkeep h.2⟩
  have HC2 : ∀ wx, (ClG w w2.heap.size (fun wx => Holds4 (w.heap.size + 1) (.int .u64 a0) (.int .u64 a1) (.int .u64 a2) (.int .u64 a3) wx ∧ Holds4 w2.heap.size (.int .u64 s) (.int .u64 0) (.int .u64 0) (.int .u64 0) wx ∧ (Holds4 (w.heap.size + 1 + 1) (.int .u64 0) (.int .u64 0) (.int .u64 0) (.int .u64 0) wx ∧ Free4 (w.heap.size + 1 + 1) wx))) wx → Calls Tryd.prog 41 #[Vs, Vy] wx fun e w' => e = .returned (.agg #[.int .u64 p0, .int .u64 p1, .int .u64 p2, .int .u64 p3]) ∧ (ClG w w2.heap.size (fun wx => Holds4 (w.heap.size + 1) (.int .u64 a0) (.int .u64 a1) (.int .u64 a2) (.int .u64 a3) wx ∧ Holds4 w2.heap.size (.int .u64 s) (.int .u64 0) (.int .u64 0) (.int .u64 0) wx ∧ (Holds4 (w.heap.size + 1 + 1) (.int .u64 0) (.int .u64 0) (.int .u64 0) (.int .u64 0) wx ∧ Free4 (w.heap.size + 1 + 1) wx))) w' := fun wx hC => (HR.out wx).mono fun _ _ h => ⟨h.1, hC.below hkeep h.2⟩
  clear hkeep m0 m1 m2 m3 r0 r1 r2 r3 g0 g1 g2 g3 hz1 c hfz hz
  have H1 := Lib.hid HLs; clear HLs
  have H2 := Lib.hid HLa; clear HLa
  have H3 := Lib.hid HC1; clear HC1
  have H4 := Lib.hid HC2; clear HC2
  go_wp2_with fail
  refine region_quiet_tail 5 (ClG w w2.heap.size (fun wx => Holds4 (w.heap.size + 1) (.int .u64 a0) (.int .u64 a1) (.int .u64 a2) (.int .u64 a3) wx ∧ Holds4 w2.heap.size (.int .u64 s) (.int .u64 0) (.int .u64 0) (.int .u64 0) wx ∧ (Holds4 (w.heap.size + 1 + 1) (.int .u64 0) (.int .u64 0) (.int .u64 0) (.int .u64 0) wx ∧ Free4 (w.heap.size + 1 + 1) wx))) (by kernel_rfl) (by kernel_rfl) (HCL.out.drew (fun _ h => h)) ?_
  simp only [List.take_succ_cons, List.take_zero, List.drop_succ_cons, List.drop_zero]
  with_reducible refine q_load 24 (.tmp 7) (.pointer (some ⟨w2.heap.size, 0, none⟩)) Vs rfl (by kernel_rfl) (by kernel_rfl) H1.out ?_
  with_reducible refine q_load 24 (.tmp 7) (.pointer (some ⟨w2.heap.size, 0, none⟩)) Vs rfl (by kernel_rfl) (by kernel_rfl) H1.out ?_
  with_reducible refine q_load 24 (.tmp 3) (.pointer (some ⟨w.heap.size + 1, 0, none⟩)) Va rfl (by kernel_rfl) (by kernel_rfl) H2.out ?_
  with_reducible refine q_call 37 #[Vs, Va] Vy (by kernel_rfl) (fun _ => by kernel_rfl) H3.out ?_
  with_reducible refine q_call 41 #[Vs, Vy] (.agg #[.int .u64 p0, .int .u64 p1, .int .u64 p2, .int .u64 p3]) (by kernel_rfl) (fun _ => by kernel_rfl) H4.out ?_
  with_reducible refine wpQuiet_nil ?_
  intro wx hC
  obtain ⟨hB, ht, -, -, ⟨q0, q1, q2, q3⟩, f0, f1, f2, f3⟩ := hC
  have hz3 : w.heap.size + 1 + 1 < wx.heap.size := by omega
  go_simp
  go_wp2
  refine bodyPost_ret (by simp [results, Tryd.results33, go_sem, q0, q1, q2, q3]; try rfl) rfl ⟨rfl, ?_⟩
  go_grown

set_option maxRecDepth 100000 in
set_option maxHeartbeats 1000000 in
theorem sext_out (k0 k1 k2 k3 n a0 a1 a2 a3 : Nat) (hn : (30 : Int) < n) (w : World)
    (hS : ∀ w, Calls Tryd.prog 52 #[.agg #[.int .u64 k0, .int .u64 k1, .int .u64 k2, .int .u64 k3]] w fun e w' => e = .returned (.tuple #[.int .u64 n, .bool true]) ∧ Below w.heap.size w w') :
    Calls Tryd.prog 33 #[.agg #[.int .u64 k0, .int .u64 k1, .int .u64 k2, .int .u64 k3], .agg #[.int .u64 a0, .int .u64 a1, .int .u64 a2, .int .u64 a3]] w fun e w' => e = .returned (.agg #[.int .u64 a0, .int .u64 a1, .int .u64 a2, .int .u64 a3]) ∧ Below w.heap.size w w' := by
  go_enter Tryd.func33, Tryd.ntmps33
  go_wp2_with fail
  refine (hS _).mono ?_
  rintro e w1 ⟨rfl, hb⟩
  obtain ⟨y0, -, -⟩ := after1 (b := w.heap.size + 1) (i := 0) (v := .int .u64 a0) hb (by first | (simp; done) | (simp; omega)) (by go_cell) (by go_cell)
  obtain ⟨y1, -, -⟩ := after1 (b := w.heap.size + 1) (i := 1) (v := .int .u64 a1) hb (by first | (simp; done) | (simp; omega)) (by go_cell) (by go_cell)
  obtain ⟨y2, -, -⟩ := after1 (b := w.heap.size + 1) (i := 2) (v := .int .u64 a2) hb (by first | (simp; done) | (simp; omega)) (by go_cell) (by go_cell)
  obtain ⟨y3, -, -⟩ := after1 (b := w.heap.size + 1) (i := 3) (v := .int .u64 a3) hb (by first | (simp; done) | (simp; omega)) (by go_cell) (by go_cell)
  obtain ⟨⟨q0, q1, q2, q3⟩, ⟨f0, f1, f2, f3⟩, z, b⟩ := after4 (w := w) (B := w.heap.size) (w.heap.size + 1 + 1) hb (by go_grown) (by simp; omega) (by simp) (by go_cell) (by go_cell) (by go_cell) (by go_cell) (by go_cell) (by go_cell) (by go_cell) (by go_cell)
  clear hb
  go_wp2
  refine bodyPost_ret (by simp [results, Tryd.results33, go_sem, q0, q1, q2, q3]; try rfl) rfl ⟨rfl, ?_⟩
  go_grown

set_option maxRecDepth 100000 in
set_option maxHeartbeats 1000000 in
theorem sext_far (k0 k1 k2 k3 a0 a1 a2 a3 : Nat) (w : World)
    (hS : ∀ w, Calls Tryd.prog 52 #[.agg #[.int .u64 k0, .int .u64 k1, .int .u64 k2, .int .u64 k3]] w fun e w' => e = .returned (.tuple #[.int .u64 0, .bool false]) ∧ Below w.heap.size w w') :
    Calls Tryd.prog 33 #[.agg #[.int .u64 k0, .int .u64 k1, .int .u64 k2, .int .u64 k3], .agg #[.int .u64 a0, .int .u64 a1, .int .u64 a2, .int .u64 a3]] w fun e w' => e = .returned (.agg #[.int .u64 a0, .int .u64 a1, .int .u64 a2, .int .u64 a3]) ∧ Below w.heap.size w w' := by
  go_enter Tryd.func33, Tryd.ntmps33
  go_wp2_with fail
  refine (hS _).mono ?_
  rintro e w1 ⟨rfl, hb⟩
  obtain ⟨y0, -, -⟩ := after1 (b := w.heap.size + 1) (i := 0) (v := .int .u64 a0) hb (by first | (simp; done) | (simp; omega)) (by go_cell) (by go_cell)
  obtain ⟨y1, -, -⟩ := after1 (b := w.heap.size + 1) (i := 1) (v := .int .u64 a1) hb (by first | (simp; done) | (simp; omega)) (by go_cell) (by go_cell)
  obtain ⟨y2, -, -⟩ := after1 (b := w.heap.size + 1) (i := 2) (v := .int .u64 a2) hb (by first | (simp; done) | (simp; omega)) (by go_cell) (by go_cell)
  obtain ⟨y3, -, -⟩ := after1 (b := w.heap.size + 1) (i := 3) (v := .int .u64 a3) hb (by first | (simp; done) | (simp; omega)) (by go_cell) (by go_cell)
  obtain ⟨⟨q0, q1, q2, q3⟩, ⟨f0, f1, f2, f3⟩, z, b⟩ := after4 (w := w) (B := w.heap.size) (w.heap.size + 1 + 1) hb (by go_grown) (by simp; omega) (by simp) (by go_cell) (by go_cell) (by go_cell) (by go_cell) (by go_cell) (by go_cell) (by go_cell) (by go_cell)
  clear hb
  go_wp2
  refine bodyPost_ret (by simp [results, Tryd.results33, go_sem, q0, q1, q2, q3]; try rfl) rfl ⟨rfl, ?_⟩
  go_grown

/-- What Sar comes to, by fewer than 256 bits. -/
def sarN (s y : Nat) : Nat := if 57896044618658097711785492504343953926634992332820282019728792003956564819968 ≤ y then 115792089237316195423570985008687907853269984665640564039457584007913129639935 - (115792089237316195423570985008687907853269984665640564039457584007913129639935 - y) / 2 ^ s else y / 2 ^ s
/-- What SignExtend comes to. -/
def sextN (k x : Nat) : Nat := if k % 115792089237316195423570985008687907853269984665640564039457584007913129639936 ≤ 30 then sarN (8 * (31 - k % 115792089237316195423570985008687907853269984665640564039457584007913129639936)) (x * 2 ^ (8 * (31 - k % 115792089237316195423570985008687907853269984665640564039457584007913129639936)) % 115792089237316195423570985008687907853269984665640564039457584007913129639936) else x
-- WHAT SignExtend COMES TO.
theorem sext_any (k x : Nat) (w : World) :
    Calls Tryd.prog 33 #[wv k, wv x] w fun e w' => e = .returned (wv (sextN k x)) ∧ Below w.heap.size w w' := by
  have hS := fun w => small_any k w
  obtain ⟨k0, k1, k2, k3, -, -, -, -, ek, -⟩ := wv_parts k
  obtain ⟨a0, a1, a2, a3, -, -, -, -, ea, -⟩ := wv_parts x
  unfold sextN
  generalize k % 115792089237316195423570985008687907853269984665640564039457584007913129639936 = n at *
  rw [ek] at hS
  rw [ek]
  by_cases h1 : n < 18446744073709551616
  · rw [if_pos h1, decide_eq_true h1] at hS
    by_cases h2 : n ≤ 30
    · rw [if_pos h2]
      have hsb : 8 * (31 - n) ≤ 248 := by omega
      have hn8 : 8 * (31 - (n : Int)) = ((8 * (31 - n) : Nat) : Int) := by omega
      generalize 8 * (31 - n) = s at *
      have hsm : s % 115792089237316195423570985008687907853269984665640564039457584007913129639936 = s := Nat.mod_eq_of_lt (by omega)
      have hL := fun w => shl_any s x w
      have hR := fun w => sar_any s (x * 2 ^ s) w
      rw [hsm, Nat.min_eq_left (by omega)] at hL hR
      obtain ⟨p0, p1, p2, p3, -, -, -, -, ep, -⟩ := wv_parts (sarN s (x * 2 ^ s % 115792089237316195423570985008687907853269984665640564039457584007913129639936))
      have e1 : (if 57896044618658097711785492504343953926634992332820282019728792003956564819968 ≤ x * 2 ^ s % 115792089237316195423570985008687907853269984665640564039457584007913129639936 then 115792089237316195423570985008687907853269984665640564039457584007913129639935 - (115792089237316195423570985008687907853269984665640564039457584007913129639935 - x * 2 ^ s % 115792089237316195423570985008687907853269984665640564039457584007913129639936) / 2 ^ s else x * 2 ^ s % 115792089237316195423570985008687907853269984665640564039457584007913129639936 / 2 ^ s) = sarN s (x * 2 ^ s % 115792089237316195423570985008687907853269984665640564039457584007913129639936) := rfl
      rw [e1, ep] at hR
      rw [ep]
      have R := sext_in k0 k1 k2 k3 a0 a1 a2 a3 n s p0 p1 p2 p3 (wv x) (wv s) _ ea (wv_small (by omega)) (by omega) hn8 w hS hL hR
      rw [ea]
      exact R
    · rw [if_neg h2, ea]
      exact sext_out k0 k1 k2 k3 n a0 a1 a2 a3 (by omega) w hS
  · rw [if_neg h1, decide_eq_false h1] at hS
    rw [if_neg (by omega), ea]
    exact sext_far k0 k1 k2 k3 a0 a1 a2 a3 w hS
end Go.Proofs.YthfadinocadhaaaDoor
namespace Go.Proofs.YthfadinocadhaaaDoor
open Go.RowKit

theorem hfz4e (W : World) (o : Obj) {B : Nat} (h : Free4 B W) (hB : B < W.heap.size) : Free4 B (W.alloc o) :=
  ⟨(World.frozen?_alloc_old _ _ _ (Nat.ne_of_lt hB)).trans h.1, (World.frozen?_alloc_old _ _ _ (Nat.ne_of_lt hB)).trans h.2.1, (World.frozen?_alloc_old _ _ _ (Nat.ne_of_lt hB)).trans h.2.2.1, (World.frozen?_alloc_old _ _ _ (Nat.ne_of_lt hB)).trans h.2.2.2⟩

/-- The blocks of a call of Exp: the base, the exponent, the result, the power so far. -/
def ExB (w : World) (B : Nat) (a0 a1 a2 a3 b0 b1 b2 b3 p0 p1 p2 p3 : Nat) (wx : World) : Prop :=
  Below w.heap.size w wx ∧ B < wx.heap.size ∧ w.heap.size + 1 + 1 < B ∧ Holds4 (w.heap.size) (.int .u64 a0) (.int .u64 a1) (.int .u64 a2) (.int .u64 a3) wx ∧ Holds4 (w.heap.size + 1) (.int .u64 b0) (.int .u64 b1) (.int .u64 b2) (.int .u64 b3) wx ∧ Holds4 (B) (.int .u64 p0) (.int .u64 p1) (.int .u64 p2) (.int .u64 p3) wx ∧ Free4 B wx ∧ Holds4 ((w.heap.size + 1 + 1)) (.int .u64 0) (.int .u64 0) (.int .u64 0) (.int .u64 0) wx ∧ Free4 (w.heap.size + 1 + 1) wx
theorem ExB.below {w wx w' : World} {B a0 a1 a2 a3 b0 b1 b2 b3 p0 p1 p2 p3 : Nat} (h : ExB w B a0 a1 a2 a3 b0 b1 b2 b3 p0 p1 p2 p3 wx) (hb : Below wx.heap.size wx w') : ExB w B a0 a1 a2 a3 b0 b1 b2 b3 p0 p1 p2 p3 w' := by
  obtain ⟨h1, h2, h3, h4, h5, h6, h7, h8, h9⟩ := h
  exact ⟨h1.trans (hb.mono h1.size), Nat.lt_of_lt_of_le h2 hb.size, h3, h4.below hb (by omega), h5.below hb (by omega), h6.below hb h2, h7.below hb h2, h8.below hb (by omega), h9.below hb (by omega)⟩
theorem ExB.set {w wx : World} {B a0 a1 a2 a3 b0 b1 b2 b3 p0 p1 p2 p3 : Nat} (h : ExB w B a0 a1 a2 a3 b0 b1 b2 b3 p0 p1 p2 p3 wx) (q0 q1 q2 q3 : Nat) :
    ExB w B a0 a1 a2 a3 b0 b1 b2 b3 q0 q1 q2 q3 ((((wx.setCell ⟨B, 0, none⟩ (.int .u64 q0)).setCell ⟨B, 1, none⟩ (.int .u64 q1)).setCell ⟨B, 2, none⟩ (.int .u64 q2)).setCell ⟨B, 3, none⟩ (.int .u64 q3)) := by
  obtain ⟨h1, h2, h3, ⟨a0', a1', a2', a3'⟩, ⟨b0', b1', b2', b3'⟩, ⟨p0', p1', p2', p3'⟩, ⟨f0, f1, f2, f3⟩, ⟨z0, z1, z2, z3⟩, ⟨g0, g1, g2, g3⟩⟩ := h
  have n1 : w.heap.size ≠ B := by omega
  have n2 : w.heap.size + 1 ≠ B := by omega
  have n3 : w.heap.size + 1 + 1 ≠ B := by omega
  have far : ∀ (k i : Nat) (v : Value) (j : Nat) (u : Value) (W : World), k ≠ B → W.cell? ⟨k, i, none⟩ = some v → (W.setCell ⟨B, j, none⟩ u).cell? ⟨k, i, none⟩ = some v := fun k i v j u W hne hc =>
    (World.cell?_setCell_other _ _ _ _ (by intro e; injection e with e _; exact hne e.symm)).trans hc
  have far4 : ∀ (k i : Nat) (v : Value), k ≠ B → wx.cell? ⟨k, i, none⟩ = some v → ((((wx.setCell ⟨B, 0, none⟩ (.int .u64 q0)).setCell ⟨B, 1, none⟩ (.int .u64 q1)).setCell ⟨B, 2, none⟩ (.int .u64 q2)).setCell ⟨B, 3, none⟩ (.int .u64 q3)).cell? ⟨k, i, none⟩ = some v := fun k i v hne hc =>
    far _ _ _ _ _ _ hne (far _ _ _ _ _ _ hne (far _ _ _ _ _ _ hne (far _ _ _ _ _ _ hne hc)))
  refine ⟨by go_grown, by simpa using h2, h3, ⟨far4 _ _ _ n1 a0', far4 _ _ _ n1 a1', far4 _ _ _ n1 a2', far4 _ _ _ n1 a3'⟩, ⟨far4 _ _ _ n2 b0', far4 _ _ _ n2 b1', far4 _ _ _ n2 b2', far4 _ _ _ n2 b3'⟩, ⟨by go_cell, by go_cell, by go_cell, by go_cell⟩, ⟨?_, ?_, ?_, ?_⟩, ⟨far4 _ _ _ n3 z0, far4 _ _ _ n3 z1, far4 _ _ _ n3 z2, far4 _ _ _ n3 z3⟩, ?_, ?_, ?_, ?_⟩ <;> simp [World.frozen?_setCell, *]

-- WHAT Len COMES TO: enough bits.
theorem len_any (y : Nat) (w : World) : Calls Tryd.prog 45 #[wv y] w fun e w' => ∃ L : Nat, e = .returned (.int .i64 L) ∧ y % 115792089237316195423570985008687907853269984665640564039457584007913129639936 < 2 ^ L ∧ L ≤ 256 ∧ Below w.heap.size w w' := by
  obtain ⟨a0, a1, a2, a3, u0, u1, u2, u3, ea, na⟩ := wv_parts y
  rw [ea, ← na]
  have up : ∀ a : Nat, a < 18446744073709551616 → a ≠ 0 → a < 2 ^ Lib.bitLen a ∧ Lib.bitLen a ≤ 64 := fun a h h0 => by
    obtain ⟨-, h2, h3⟩ := bitLen_bounds a h h0
    refine ⟨h3, ?_⟩
    have h5 : ¬ 65 ≤ Lib.bitLen a := fun h => by
      have := Nat.pow_le_pow_right (n := 2) (by omega) (show 64 ≤ Lib.bitLen a - 1 by omega)
      omega
    omega
  by_cases h3 : a3 = 0
  · subst h3
    by_cases h2 : a2 = 0
    · subst h2
      by_cases h1 : a1 = 0
      · subst h1
        by_cases h0 : a0 = 0
        · subst h0
          exact (len_0 w).mono fun e w' ⟨he, hb⟩ => ⟨0, he, by decide, by omega, hb⟩
        · obtain ⟨l1, l2⟩ := up a0 u0 h0
          exact (len_1 a0 (by rw [bne_iff_ne]; omega) (by omega) w).mono fun e w' ⟨he, hb⟩ => ⟨Lib.bitLen a0, he, by unfold n4; omega, by omega, hb⟩
      · obtain ⟨l1, l2⟩ := up a1 u1 h1
        refine (len_2 a0 a1 (by rw [bne_iff_ne]; omega) (by omega) w).mono fun e w' ⟨he, hb⟩ => ⟨64 + Lib.bitLen a1, by rw [he]; simp, ?_, by omega, hb⟩
        rw [Nat.pow_add, show (2 : Nat) ^ 64 = 18446744073709551616 by rfl]; unfold n4; omega
    · obtain ⟨l1, l2⟩ := up a2 u2 h2
      refine (len_3 a0 a1 a2 (by rw [bne_iff_ne]; omega) (by omega) w).mono fun e w' ⟨he, hb⟩ => ⟨128 + Lib.bitLen a2, by rw [he]; simp, ?_, by omega, hb⟩
      rw [Nat.pow_add, show (2 : Nat) ^ 128 = 340282366920938463463374607431768211456 by rfl]; unfold n4; omega
  · obtain ⟨l1, l2⟩ := up a3 u3 h3
    refine (len_4 a0 a1 a2 a3 (by rw [bne_iff_ne]; omega) (by omega) w).mono fun e w' ⟨he, hb⟩ => ⟨192 + Lib.bitLen a3, by rw [he]; simp, ?_, by omega, hb⟩
    rw [Nat.pow_add, show (2 : Nat) ^ 192 = 6277101735386680763835789423207666416102355444464034512896 by rfl]; unfold n4; omega

set_option maxRecDepth 100000 in
set_option maxHeartbeats 4000000 in
-- WHAT word.Exp COMES TO.
theorem exp_any (x y : Nat) (w : World) : Calls Tryd.prog 20 #[wv x, wv y] w fun e w' => e = .returned (wv (x ^ (y % 115792089237316195423570985008687907853269984665640564039457584007913129639936))) ∧ Below w.heap.size w w' := by
  obtain ⟨a0, a1, a2, a3, -, -, -, -, ea, -⟩ := wv_parts x
  obtain ⟨b0, b1, b2, b3, -, -, -, -, eb, -⟩ := wv_parts y
  have hB := fun (i : Nat) (hi : i < 256) (w : World) => hasBit_any y i hi w
  have hL := len_any y
  have hO := fun w => of_walk 1 w
  rw [ea, eb]
  rw [eb] at hB hL
  have HB := Lib.hid hB; clear hB
  have EA := Lib.hid ea; clear ea
  have EB := Lib.hid eb; clear eb
  go_enter Tryd.func20, Tryd.ntmps20
  go_wp2_with fail
  refine (hO _).mono ?_
  rintro e w1 ⟨rfl, hb⟩
  have hz1 : w.heap.size + 1 + 1 < w1.heap.size := by have h := hb.size; simp at h; omega
  have hcl : ExB w w1.heap.size a0 a1 a2 a3 b0 b1 b2 b3 1 0 0 0 (w1.alloc (.cells #[.int .u64 1, .int .u64 0, .int .u64 0, .int .u64 0] 24)) := by
    have cc : ∀ (k i : Nat) (v : Value), k < w.heap.size + 1 + 1 + 1 → (((w.alloc (.cells #[.int .u64 a0, .int .u64 a1, .int .u64 a2, .int .u64 a3] 24)).alloc (.cells #[.int .u64 b0, .int .u64 b1, .int .u64 b2, .int .u64 b3] 24)).alloc (.cells #[.int .u64 0, .int .u64 0, .int .u64 0, .int .u64 0] 24)).cell? ⟨k, i, none⟩ = some v → (w1.alloc (.cells #[.int .u64 1, .int .u64 0, .int .u64 0, .int .u64 0] 24)).cell? ⟨k, i, none⟩ = some v := fun k i v hk hc =>
      (World.cell?_alloc_old _ _ _ (by show k ≠ w1.heap.size; omega)).trans ((hb.cell (p := ⟨k, i, none⟩) (by simp; omega)).trans hc)
    have ff : ∀ (k i : Nat), k < w.heap.size + 1 + 1 + 1 → (((w.alloc (.cells #[.int .u64 a0, .int .u64 a1, .int .u64 a2, .int .u64 a3] 24)).alloc (.cells #[.int .u64 b0, .int .u64 b1, .int .u64 b2, .int .u64 b3] 24)).alloc (.cells #[.int .u64 0, .int .u64 0, .int .u64 0, .int .u64 0] 24)).frozen? ⟨k, i, none⟩ = false → (w1.alloc (.cells #[.int .u64 1, .int .u64 0, .int .u64 0, .int .u64 0] 24)).frozen? ⟨k, i, none⟩ = false := fun k i hk hc =>
      (World.frozen?_alloc_old _ _ _ (by show k ≠ w1.heap.size; omega)).trans ((hb.frozen (p := ⟨k, i, none⟩) (by simp; omega)).trans hc)
    have hB1 : Below w.heap.size w w1 := Below.trans (by go_grown) (hb.mono (by simp; omega))
    exact ⟨by go_grown, by simp, hz1, ⟨cc _ _ _ (by omega) (by go_cell), cc _ _ _ (by omega) (by go_cell), cc _ _ _ (by omega) (by go_cell), cc _ _ _ (by omega) (by go_cell)⟩, ⟨cc _ _ _ (by omega) (by go_cell), cc _ _ _ (by omega) (by go_cell), cc _ _ _ (by omega) (by go_cell), cc _ _ _ (by omega) (by go_cell)⟩, ⟨by go_cell, by go_cell, by go_cell, by go_cell⟩, ⟨by go_cell, by go_cell, by go_cell, by go_cell⟩, ⟨cc _ _ _ (by omega) (by go_cell), cc _ _ _ (by omega) (by go_cell), cc _ _ _ (by omega) (by go_cell), cc _ _ _ (by omega) (by go_cell)⟩, ff _ _ (by omega) (by go_cell), ff _ _ (by omega) (by go_cell), ff _ _ (by omega) (by go_cell), ff _ _ (by omega) (by go_cell)⟩
  have HCL := Lib.hid hcl; clear hcl
  obtain ⟨hBw, hBs, -, -, ⟨y0, y1, y2, y3⟩, -⟩ := HCL.out
  have Z1 := Lib.hid hz1
  clear hb
  go_wp2_with fail
  refine (hL _).mono ?_
  rintro e w2 ⟨L, rfl, hyL, hL2, hb⟩
  have HC2 := Lib.hid (HCL.out.below hb)
  clear hb HCL y0 y1 y2 y3 hBw hBs hz1 hL hO
  have HYL := Lib.hid hyL; clear hyL
  have hL0 : (0 : Int) ≤ L := by omega
  have hL1 : (L : Int) ≤ 256 := by omega
  go_wp2
  go_loopw [6] (fun iv wr => ∃ k : Nat, k ≤ L ∧ iv = .int .i64 ((k : Int) - 1) ∧ Hid (∃ p0 p1 p2 p3 : Nat, wv (x ^ (y % 115792089237316195423570985008687907853269984665640564039457584007913129639936 / 2 ^ k)) = .agg #[.int .u64 p0, .int .u64 p1, .int .u64 p2, .int .u64 p3] ∧ ExB w w1.heap.size a0 a1 a2 a3 b0 b1 b2 b3 p0 p1 p2 p3 wr)) (fun iv _ => (intOf iv + 1).toNat)
  case atStart => exact ⟨L, Nat.le_refl _, rfl, Lib.hid ⟨1, 0, 0, 0, by rw [Nat.div_eq_of_lt HYL.out, Nat.pow_zero]; exact wv_small (by omega), HC2.out⟩⟩
  case round =>
    obtain ⟨k, hk, rfl, H⟩ := hrel
    obtain ⟨p0, p1, p2, p3, ep, hC⟩ := H.out
    clear H
    have HC := Lib.hid hC; clear hC
    have hk1 : (k : Int) ≤ 256 := by omega
    rcases k with _ | i
    · rw [Nat.pow_zero, Nat.div_one] at ep
      have EP := Lib.hid ep; clear ep
      obtain ⟨hBw, hBs, -, ⟨x0, x1, x2, x3⟩, ⟨y0, y1, y2, y3⟩, ⟨q0, q1, q2, q3⟩, ⟨f0, f1, f2, f3⟩, ⟨z0, z1, z2, z3⟩, ⟨g0, g1, g2, g3⟩⟩ := HC.out
      have hSz : w.heap.size + 1 + 1 < wr.heap.size := by have := HC.out.2.2.1; omega
      have hSB : w1.heap.size ≠ w.heap.size + 1 + 1 := by have := HC.out.2.2.1; omega
      go_wp2
      refine bodyPost_ret (v := .agg #[.int .u64 p0, .int .u64 p1, .int .u64 p2, .int .u64 p3]) (by simp [results, Tryd.results20, go_sem, z0, z1, z2, z3]; try rfl) rfl ⟨by rw [EP.out], ?_⟩
      go_grown
    · have e1 : ((i + 1 : Nat) : Int) - 1 = (i : Int) := by omega
      rw [e1]
      clear e1
      have hi0 : (0 : Int) ≤ i := by omega
      have hi1 : (i : Int) < 256 := by omega
      have hsq : y % 115792089237316195423570985008687907853269984665640564039457584007913129639936 / 2 ^ i = (y % 115792089237316195423570985008687907853269984665640564039457584007913129639936 / 2 ^ (i + 1)) + (y % 115792089237316195423570985008687907853269984665640564039457584007913129639936 / 2 ^ (i + 1)) + y % 115792089237316195423570985008687907853269984665640564039457584007913129639936 / 2 ^ i % 2 := by
        rw [Nat.pow_succ, ← Nat.div_div_eq_div_mul]; omega
      obtain ⟨r0, r1, r2, r3, -, -, -, -, er, -⟩ := wv_parts (x ^ (y % 115792089237316195423570985008687907853269984665640564039457584007913129639936 / 2 ^ (i + 1)) * x ^ (y % 115792089237316195423570985008687907853269984665640564039457584007913129639936 / 2 ^ (i + 1)))
      have hM1 : ∀ w, Calls Tryd.prog 17 #[.agg #[.int .u64 p0, .int .u64 p1, .int .u64 p2, .int .u64 p3], .agg #[.int .u64 p0, .int .u64 p1, .int .u64 p2, .int .u64 p3]] w fun e w' => e = .returned (.agg #[.int .u64 r0, .int .u64 r1, .int .u64 r2, .int .u64 r3]) ∧ Below w.heap.size w w' := fun w => by rw [← ep, ← er]; exact mul_any _ _ w
      have ER := Lib.hid er; clear er
      have EP := Lib.hid ep; clear ep
      have HM1 := Lib.hid hM1; clear hM1
      have HSQ := Lib.hid hsq; clear hsq
      obtain ⟨hBw, hBs, -, ⟨x0, x1, x2, x3⟩, ⟨y0, y1, y2, y3⟩, ⟨q0, q1, q2, q3⟩, ⟨f0, f1, f2, f3⟩, ⟨z0, z1, z2, z3⟩, ⟨g0, g1, g2, g3⟩⟩ := HC.out
      go_wp2_with fail
      refine (HM1.out _).mono ?_
      rintro e w3 ⟨rfl, hb⟩
      clear x0 x1 x2 x3 y0 y1 y2 y3 q0 q1 q2 q3 f0 f1 f2 f3 z0 z1 z2 z3 g0 g1 g2 g3 hBw hBs
      have HC3 := Lib.hid (HC.out.below hb)
      have HC4 := Lib.hid (HC3.out.set r0 r1 r2 r3)
      clear hb HC
      obtain ⟨hBw, hBs, -, ⟨x0, x1, x2, x3⟩, ⟨y0, y1, y2, y3⟩, ⟨q0, q1, q2, q3⟩, ⟨f0, f1, f2, f3⟩, ⟨z0, z1, z2, z3⟩, ⟨g0, g1, g2, g3⟩⟩ := HC3.out
      have hBn : w1.heap.size ≠ w.heap.size + 1 := by have := HC3.out.2.2.1; omega
      have hBn2 : w1.heap.size ≠ w.heap.size := by have := HC3.out.2.2.1; omega
      go_wp2_with fail
      refine (HB.out i (by omega) _).mono ?_
      rintro e w4 ⟨rfl, hb⟩
      clear x0 x1 x2 x3 y0 y1 y2 y3 q0 q1 q2 q3 f0 f1 f2 f3 z0 z1 z2 z3 g0 g1 g2 g3 hBw hBs
      have HC5 := Lib.hid (HC4.out.below hb)
      clear hb HC3 HC4
      by_cases hbit : y % 115792089237316195423570985008687907853269984665640564039457584007913129639936 / 2 ^ i % 2 = 1
      · rw [decide_eq_true hbit]
        obtain ⟨t0, t1, t2, t3, -, -, -, -, et, -⟩ := wv_parts (x ^ (y % 115792089237316195423570985008687907853269984665640564039457584007913129639936 / 2 ^ (i + 1)) * x ^ (y % 115792089237316195423570985008687907853269984665640564039457584007913129639936 / 2 ^ (i + 1)) * x)
        have hM2 : ∀ w, Calls Tryd.prog 17 #[.agg #[.int .u64 r0, .int .u64 r1, .int .u64 r2, .int .u64 r3], .agg #[.int .u64 a0, .int .u64 a1, .int .u64 a2, .int .u64 a3]] w fun e w' => e = .returned (.agg #[.int .u64 t0, .int .u64 t1, .int .u64 t2, .int .u64 t3]) ∧ Below w.heap.size w w' := fun w => by rw [← ER.out, ← EA.out, ← et]; exact mul_any _ _ w
        have ET : Hid (wv (x ^ (y % 115792089237316195423570985008687907853269984665640564039457584007913129639936 / 2 ^ i)) = .agg #[.int .u64 t0, .int .u64 t1, .int .u64 t2, .int .u64 t3]) := Lib.hid (by rw [HSQ.out, hbit, Nat.pow_succ, Nat.pow_add]; exact et)
        have HM2 := Lib.hid hM2; clear hM2 et hbit
        obtain ⟨hBw, hBs, -, ⟨x0, x1, x2, x3⟩, ⟨y0, y1, y2, y3⟩, ⟨q0, q1, q2, q3⟩, ⟨f0, f1, f2, f3⟩, ⟨z0, z1, z2, z3⟩, ⟨g0, g1, g2, g3⟩⟩ := HC5.out
        go_wp2_with fail
        refine (HM2.out _).mono ?_
        rintro e w5 ⟨rfl, hb⟩
        clear x0 x1 x2 x3 y0 y1 y2 y3 q0 q1 q2 q3 f0 f1 f2 f3 z0 z1 z2 z3 g0 g1 g2 g3 hBw hBs
        have HC6 := Lib.hid (HC5.out.below hb)
        have HC7 := Lib.hid (HC6.out.set t0 t1 t2 t3)
        clear hb HC5
        obtain ⟨hBw, hBs, -, ⟨x0, x1, x2, x3⟩, ⟨y0, y1, y2, y3⟩, ⟨q0, q1, q2, q3⟩, ⟨f0, f1, f2, f3⟩, ⟨z0, z1, z2, z3⟩, ⟨g0, g1, g2, g3⟩⟩ := HC6.out
        go_wp2
        go_roundw
        case rel => exact ⟨i, by omega, rfl, Lib.hid ⟨t0, t1, t2, t3, ET.out, HC7.out⟩⟩
        case measure => simp [intOf]
      · have hbit0 : y % 115792089237316195423570985008687907853269984665640564039457584007913129639936 / 2 ^ i % 2 = 0 := by omega
        rw [decide_eq_false hbit]
        have ET : Hid (wv (x ^ (y % 115792089237316195423570985008687907853269984665640564039457584007913129639936 / 2 ^ i)) = .agg #[.int .u64 r0, .int .u64 r1, .int .u64 r2, .int .u64 r3]) := Lib.hid (by rw [HSQ.out, hbit0, Nat.add_zero, Nat.pow_add]; exact ER.out)
        clear hbit hbit0
        go_wp2
        go_roundw
        case rel => exact ⟨i, by omega, rfl, Lib.hid ⟨r0, r1, r2, r3, ET.out, HC5.out⟩⟩
        case measure => simp [intOf]

set_option maxRecDepth 100000 in
set_option maxHeartbeats 4000000 in
-- WHAT ref01.Exp COMES TO.
theorem expr_any (x y : Nat) (w : World) : Calls Tryd.prog 21 #[wv x, wv y] w fun e w' => e = .returned (wv (x ^ (y % 115792089237316195423570985008687907853269984665640564039457584007913129639936))) ∧ Below w.heap.size w w' := by
  obtain ⟨a0, a1, a2, a3, -, -, -, -, ea, -⟩ := wv_parts x
  obtain ⟨b0, b1, b2, b3, -, -, -, -, eb, -⟩ := wv_parts y
  have hB := fun (i : Nat) (hi : i < 256) (w : World) => bit_ref y i hi w
  rw [ea, eb]
  rw [eb] at hB
  have HB := Lib.hid hB; clear hB
  have EA := Lib.hid ea; clear ea
  have EB := Lib.hid eb; clear eb
  go_enter Tryd.func21, Tryd.ntmps21
  go_wp2
  have HC2 : Hid (ExB w (w.heap.size + 1 + 1 + 1) a0 a1 a2 a3 b0 b1 b2 b3 1 0 0 0 ((((w.alloc (.cells #[.int .u64 a0, .int .u64 a1, .int .u64 a2, .int .u64 a3] 24)).alloc (.cells #[.int .u64 b0, .int .u64 b1, .int .u64 b2, .int .u64 b3] 24)).alloc (.cells #[.int .u64 0, .int .u64 0, .int .u64 0, .int .u64 0] 24)).alloc (.cells #[.int .u64 1, .int .u64 0, .int .u64 0, .int .u64 0] 24))) := Lib.hid ⟨by go_grown, by simp, by omega, ⟨by go_cell, by go_cell, by go_cell, by go_cell⟩, ⟨by go_cell, by go_cell, by go_cell, by go_cell⟩, ⟨by go_cell, by go_cell, by go_cell, by go_cell⟩, ⟨by go_cell, by go_cell, by go_cell, by go_cell⟩, ⟨by go_cell, by go_cell, by go_cell, by go_cell⟩, by go_cell, by go_cell, by go_cell, by go_cell⟩
  go_loopw [6] (fun iv wr => ∃ k : Nat, k ≤ 256 ∧ iv = .int .i64 ((k : Int) - 1) ∧ Hid (∃ p0 p1 p2 p3 : Nat, wv (x ^ (y % 115792089237316195423570985008687907853269984665640564039457584007913129639936 / 2 ^ k)) = .agg #[.int .u64 p0, .int .u64 p1, .int .u64 p2, .int .u64 p3] ∧ ExB w (w.heap.size + 1 + 1 + 1) a0 a1 a2 a3 b0 b1 b2 b3 p0 p1 p2 p3 wr)) (fun iv _ => (intOf iv + 1).toNat)
  case atStart => exact ⟨256, Nat.le_refl _, rfl, Lib.hid ⟨1, 0, 0, 0, by rw [show (2 : Nat) ^ 256 = 115792089237316195423570985008687907853269984665640564039457584007913129639936 by rfl, Nat.div_eq_of_lt (Nat.mod_lt _ (by omega)), Nat.pow_zero]; exact wv_small (by omega), HC2.out⟩⟩
  case round =>
    obtain ⟨k, hk, rfl, H⟩ := hrel
    obtain ⟨p0, p1, p2, p3, ep, hC⟩ := H.out
    clear H
    have HC := Lib.hid hC; clear hC
    have hk1 : (k : Int) ≤ 256 := by omega
    rcases k with _ | i
    · rw [Nat.pow_zero, Nat.div_one] at ep
      have EP := Lib.hid ep; clear ep
      obtain ⟨hBw, hBs, -, ⟨x0, x1, x2, x3⟩, ⟨y0, y1, y2, y3⟩, ⟨q0, q1, q2, q3⟩, ⟨f0, f1, f2, f3⟩, ⟨z0, z1, z2, z3⟩, ⟨g0, g1, g2, g3⟩⟩ := HC.out
      have hSz : w.heap.size + 1 + 1 < wr.heap.size := by have := HC.out.2.2.1; omega
      have hSB : (w.heap.size + 1 + 1 + 1) ≠ w.heap.size + 1 + 1 := by have := HC.out.2.2.1; omega
      go_wp2
      refine bodyPost_ret (v := .agg #[.int .u64 p0, .int .u64 p1, .int .u64 p2, .int .u64 p3]) (by simp [results, Tryd.results21, go_sem, z0, z1, z2, z3]; try rfl) rfl ⟨by rw [EP.out], ?_⟩
      go_grown
    · have e1 : ((i + 1 : Nat) : Int) - 1 = (i : Int) := by omega
      rw [e1]
      clear e1
      have hi0 : (0 : Int) ≤ i := by omega
      have hi1 : (i : Int) < 256 := by omega
      have hsq : y % 115792089237316195423570985008687907853269984665640564039457584007913129639936 / 2 ^ i = (y % 115792089237316195423570985008687907853269984665640564039457584007913129639936 / 2 ^ (i + 1)) + (y % 115792089237316195423570985008687907853269984665640564039457584007913129639936 / 2 ^ (i + 1)) + y % 115792089237316195423570985008687907853269984665640564039457584007913129639936 / 2 ^ i % 2 := by
        rw [Nat.pow_succ, ← Nat.div_div_eq_div_mul]; omega
      obtain ⟨r0, r1, r2, r3, -, -, -, -, er, -⟩ := wv_parts (x ^ (y % 115792089237316195423570985008687907853269984665640564039457584007913129639936 / 2 ^ (i + 1)) * x ^ (y % 115792089237316195423570985008687907853269984665640564039457584007913129639936 / 2 ^ (i + 1)))
      have hM1 : ∀ w, Calls Tryd.prog 18 #[.agg #[.int .u64 p0, .int .u64 p1, .int .u64 p2, .int .u64 p3], .agg #[.int .u64 p0, .int .u64 p1, .int .u64 p2, .int .u64 p3]] w fun e w' => e = .returned (.agg #[.int .u64 r0, .int .u64 r1, .int .u64 r2, .int .u64 r3]) ∧ Below w.heap.size w w' := fun w => by rw [← ep, ← er]; exact mul_ref _ _ w
      have ER := Lib.hid er; clear er
      have EP := Lib.hid ep; clear ep
      have HM1 := Lib.hid hM1; clear hM1
      have HSQ := Lib.hid hsq; clear hsq
      obtain ⟨hBw, hBs, -, ⟨x0, x1, x2, x3⟩, ⟨y0, y1, y2, y3⟩, ⟨q0, q1, q2, q3⟩, ⟨f0, f1, f2, f3⟩, ⟨z0, z1, z2, z3⟩, ⟨g0, g1, g2, g3⟩⟩ := HC.out
      go_wp2_with fail
      refine (HM1.out _).mono ?_
      rintro e w3 ⟨rfl, hb⟩
      clear x0 x1 x2 x3 y0 y1 y2 y3 q0 q1 q2 q3 f0 f1 f2 f3 z0 z1 z2 z3 g0 g1 g2 g3 hBw hBs
      have HC3 := Lib.hid (HC.out.below hb)
      have HC4 := Lib.hid (HC3.out.set r0 r1 r2 r3)
      clear hb HC
      obtain ⟨hBw, hBs, -, ⟨x0, x1, x2, x3⟩, ⟨y0, y1, y2, y3⟩, ⟨q0, q1, q2, q3⟩, ⟨f0, f1, f2, f3⟩, ⟨z0, z1, z2, z3⟩, ⟨g0, g1, g2, g3⟩⟩ := HC3.out
      have hBn : (w.heap.size + 1 + 1 + 1) ≠ w.heap.size + 1 := by have := HC3.out.2.2.1; omega
      have hBn2 : (w.heap.size + 1 + 1 + 1) ≠ w.heap.size := by have := HC3.out.2.2.1; omega
      go_wp2_with fail
      refine (HB.out i (by omega) _).mono ?_
      rintro e w4 ⟨rfl, hb⟩
      clear x0 x1 x2 x3 y0 y1 y2 y3 q0 q1 q2 q3 f0 f1 f2 f3 z0 z1 z2 z3 g0 g1 g2 g3 hBw hBs
      have HC5 := Lib.hid (HC4.out.below hb)
      clear hb HC3 HC4
      by_cases hbit : y % 115792089237316195423570985008687907853269984665640564039457584007913129639936 / 2 ^ i % 2 = 1
      · rw [hbit]
        obtain ⟨t0, t1, t2, t3, -, -, -, -, et, -⟩ := wv_parts (x ^ (y % 115792089237316195423570985008687907853269984665640564039457584007913129639936 / 2 ^ (i + 1)) * x ^ (y % 115792089237316195423570985008687907853269984665640564039457584007913129639936 / 2 ^ (i + 1)) * x)
        have hM2 : ∀ w, Calls Tryd.prog 18 #[.agg #[.int .u64 r0, .int .u64 r1, .int .u64 r2, .int .u64 r3], .agg #[.int .u64 a0, .int .u64 a1, .int .u64 a2, .int .u64 a3]] w fun e w' => e = .returned (.agg #[.int .u64 t0, .int .u64 t1, .int .u64 t2, .int .u64 t3]) ∧ Below w.heap.size w w' := fun w => by rw [← ER.out, ← EA.out, ← et]; exact mul_ref _ _ w
        have ET : Hid (wv (x ^ (y % 115792089237316195423570985008687907853269984665640564039457584007913129639936 / 2 ^ i)) = .agg #[.int .u64 t0, .int .u64 t1, .int .u64 t2, .int .u64 t3]) := Lib.hid (by rw [HSQ.out, hbit, Nat.pow_succ, Nat.pow_add]; exact et)
        have HM2 := Lib.hid hM2; clear hM2 et hbit
        obtain ⟨hBw, hBs, -, ⟨x0, x1, x2, x3⟩, ⟨y0, y1, y2, y3⟩, ⟨q0, q1, q2, q3⟩, ⟨f0, f1, f2, f3⟩, ⟨z0, z1, z2, z3⟩, ⟨g0, g1, g2, g3⟩⟩ := HC5.out
        go_wp2_with fail
        refine (HM2.out _).mono ?_
        rintro e w5 ⟨rfl, hb⟩
        clear x0 x1 x2 x3 y0 y1 y2 y3 q0 q1 q2 q3 f0 f1 f2 f3 z0 z1 z2 z3 g0 g1 g2 g3 hBw hBs
        have HC6 := Lib.hid (HC5.out.below hb)
        have HC7 := Lib.hid (HC6.out.set t0 t1 t2 t3)
        clear hb HC5
        obtain ⟨hBw, hBs, -, ⟨x0, x1, x2, x3⟩, ⟨y0, y1, y2, y3⟩, ⟨q0, q1, q2, q3⟩, ⟨f0, f1, f2, f3⟩, ⟨z0, z1, z2, z3⟩, ⟨g0, g1, g2, g3⟩⟩ := HC6.out
        go_wp2
        go_roundw
        case rel => exact ⟨i, by omega, rfl, Lib.hid ⟨t0, t1, t2, t3, ET.out, HC7.out⟩⟩
        case measure => simp [intOf]
      · have hbit0 : y % 115792089237316195423570985008687907853269984665640564039457584007913129639936 / 2 ^ i % 2 = 0 := by omega
        rw [hbit0]
        have ET : Hid (wv (x ^ (y % 115792089237316195423570985008687907853269984665640564039457584007913129639936 / 2 ^ i)) = .agg #[.int .u64 r0, .int .u64 r1, .int .u64 r2, .int .u64 r3]) := Lib.hid (by rw [HSQ.out, hbit0, Nat.add_zero, Nat.pow_add]; exact ER.out)
        clear hbit hbit0
        go_wp2
        go_roundw
        case rel => exact ⟨i, by omega, rfl, Lib.hid ⟨r0, r1, r2, r3, ET.out, HC5.out⟩⟩
        case measure => simp [intOf]
end Go.Proofs.YthfadinocadhaaaDoor
namespace Go.Proofs.YthfadinocadhaaaDoor
open Go.RowKit

/-- The number of n bits, and its parts. -/
def vb (b : Nat → Nat) : Nat → Nat
  | 0 => 0
  | n + 1 => vb b n + 2 ^ n * b n
def bpt (b : Nat → Nat) (p : Nat) : Nat → Nat
  | 0 => 0
  | k + 1 => bpt b p k + if k / 64 = p then b k * 2 ^ (k % 64) else 0
def mb (p k : Nat) : Nat := min 64 (k - 64 * p)
theorem bpt_lt {b : Nat → Nat} (p : Nat) : ∀ k, (∀ j, j < k → b j < 2) → bpt b p k < 2 ^ mb p k
  | 0, _ => by simp [bpt, Nat.two_pow_pos]
  | k + 1, h => by
    have ih := bpt_lt p k (fun j hj => h j (by omega))
    have hd := h k (by omega)
    unfold bpt
    by_cases e : k / 64 = p
    · rw [if_pos e]
      have m0 : mb p k = k % 64 := by unfold mb; omega
      have m1 : mb p (k + 1) = k % 64 + 1 := by unfold mb; omega
      rw [m0] at ih
      rw [m1, Nat.pow_succ]
      have h2 : b k * 2 ^ (k % 64) ≤ 1 * 2 ^ (k % 64) := Nat.mul_le_mul_right _ (by omega)
      omega
    · rw [if_neg e, Nat.add_zero]
      exact Nat.lt_of_lt_of_le ih (Nat.pow_le_pow_right (by omega) (by unfold mb; omega))
theorem bpt_64 {b : Nat → Nat} (p k : Nat) (h : ∀ j, j < k → b j < 2) : bpt b p k < 18446744073709551616 := by
  refine Nat.lt_of_lt_of_le (bpt_lt p k h) ?_
  have e : 18446744073709551616 = 2 ^ 64 := by rfl
  rw [e]
  exact Nat.pow_le_pow_right (by omega) (by unfold mb; omega)
theorem blow {b : Nat → Nat} {k p s : Nat} (hp : k / 64 = p) (hs : k % 64 = s) (h : ∀ j, j < k → b j < 2) : bpt b p k < 2 ^ s := by
  have := bpt_lt (b := b) p k h
  rwa [show mb p k = k % 64 by unfold mb; omega, hs] at this
theorem bpt_n4 {b : Nat → Nat} : ∀ k, k ≤ 256 → n4 (bpt b 0 k) (bpt b 1 k) (bpt b 2 k) (bpt b 3 k) = vb b k
  | 0, _ => rfl
  | k + 1, h => by
    have ih := bpt_n4 (b := b) k (by omega)
    have e : 2 ^ k * b k = 2 ^ (64 * (k / 64)) * (b k * 2 ^ (k % 64)) := by
      rw [← Nat.mul_assoc, Nat.mul_comm (2 ^ (64 * (k / 64))), Nat.mul_assoc, ← Nat.pow_add, show 64 * (k / 64) + k % 64 = k by omega, Nat.mul_comm]
    simp only [bpt, vb]
    rw [e, ← ih]
    generalize b k * 2 ^ (k % 64) = y
    have c : k / 64 = 0 ∨ k / 64 = 1 ∨ k / 64 = 2 ∨ k / 64 = 3 := by omega
    rcases c with c | c | c | c
    · rw [c, show (2 : Nat) ^ (64 * 0) = 1 by rfl]; simp only [n4]; simp; omega
    · rw [c, show (2 : Nat) ^ (64 * 1) = 18446744073709551616 by rfl]; simp only [n4]; simp; omega
    · rw [c, show (2 : Nat) ^ (64 * 2) = 340282366920938463463374607431768211456 by rfl]; simp only [n4]; simp; omega
    · rw [c, show (2 : Nat) ^ (64 * 3) = 6277101735386680763835789423207666416102355444464034512896 by rfl]; simp only [n4]; simp; omega
theorem or_bit (x y s : Nat) (hx : x < 2 ^ s) (hy : y < 2) (hs : s ≤ 63) : bits .or .u64 (x : Int) (IntKind.u64.wrap ((y : Int) * 2 ^ s)) = ((x + y * 2 ^ s : Nat) : Int) := by
  have h1 : 2 ^ s ≤ 2 ^ 63 := Nat.pow_le_pow_right (by omega) hs
  have h2 : y * 2 ^ s ≤ 1 * 2 ^ 63 := Nat.mul_le_mul (by omega) h1
  have h3 : y * 2 ^ s < 18446744073709551616 := by omega
  have e : IntKind.u64.wrap ((y : Int) * 2 ^ s) = ((y * 2 ^ s : Nat) : Int) := by
    rw [IntKind.wrap_u64]
    have e0 : (y : Int) * 2 ^ s = ((y * 2 ^ s : Nat) : Int) := by simp
    rw [e0]
    omega
  rw [e, bits_or_u64_nat x (y * 2 ^ s) (by omega) h3]
  have := Nat.two_pow_add_eq_or_of_lt hx y
  rw [Nat.or_comm, Nat.mul_comm y, ← this, Nat.add_comm]

def rb4 (b : Nat → Nat) (k : Nat) : Array Value := #[.int .u64 (bpt b 0 k : Nat), .int .u64 (bpt b 1 k : Nat), .int .u64 (bpt b 2 k : Nat), .int .u64 (bpt b 3 k : Nat)]
theorem rb4_size (b : Nat → Nat) (k : Nat) : (rb4 b k).size = 4 := rfl
theorem rb4_at (b : Nat → Nat) (k p : Nat) (h : p < 4) : (rb4 b k)[p]? = some (.int .u64 (bpt b p k : Nat)) := by
  have c : p = 0 ∨ p = 1 ∨ p = 2 ∨ p = 3 := by omega
  rcases c with rfl | rfl | rfl | rfl <;> rfl
theorem rb4_one (b : Nat → Nat) (k : Nat) : (rb4 b k).all (·.oneCell') = true := by
  simp [rb4, Value.oneCell']
theorem rb4_set (b : Nat → Nat) (k p s : Nat) (hk : k < 256) (hp : k / 64 = p) (hs : k % 64 = s) : (rb4 b k).setIfInBounds p (.int .u64 ((bpt b p k + b k * 2 ^ s : Nat) : Int)) = rb4 b (k + 1) := by
  have c : p = 0 ∨ p = 1 ∨ p = 2 ∨ p = 3 := by omega
  subst hs
  rcases c with rfl | rfl | rfl | rfl <;> simp [rb4, bpt, hp]
theorem rb4_wv (b : Nat → Nat) (h : ∀ j, j < 256 → b j < 2) : Value.agg (rb4 b 256) = wv (vb b 256) := by
  rw [← bpt_n4 256 (Nat.le_refl _), wv_n4 (bpt_64 _ _ h) (bpt_64 _ _ h) (bpt_64 _ _ h) (bpt_64 _ _ h)]
  rfl

/-- The bit that pick lays at i. -/
def pbit (x : Nat) (sh : Int) (fill i : Nat) : Nat := if 0 ≤ (i : Int) + sh ∧ (i : Int) + sh < 256 then x % 115792089237316195423570985008687907853269984665640564039457584007913129639936 / 2 ^ ((i : Int) + sh).toNat % 2 else fill
theorem pbit_lt (x : Nat) (sh : Int) (fill i : Nat) (hf : fill < 2) : pbit x sh fill i < 2 := by
  unfold pbit; split <;> omega

set_option maxRecDepth 100000 in
set_option maxHeartbeats 4000000 in
theorem pick_walk (x fill : Nat) (sh : Int) (h1 : -256 ≤ sh) (h2 : sh ≤ 256) (hf : fill < 2) (w : World) :
    Calls Tryd.prog 82 #[.agg (pw x), .int .i64 sh, .int .u64 fill] w fun e w' => e = .returned (.agg (rb4 (pbit x sh fill) 256)) ∧ Below w.heap.size w w' := by
  have HB := Lib.hid (fun (i : Nat) (hi : i < 256) (w : World) => bit_ref x i hi w)
  have HF := Lib.hid hf; clear hf
  go_enter Tryd.func82, Tryd.ntmps82
  go_wp2
  go_loopw [8] (fun iv wr => ∃ k : Nat, k ≤ 256 ∧ iv = .int .i64 k ∧ Hid (wr.heap[w.heap.size]? = some (.cells (pw x) 24 (0, 0)) ∧ wr.heap[w.heap.size + 1]? = some (.cells (rb4 (pbit x sh fill) 0) 24 (0, 0)) ∧ wr.heap[w.heap.size + 1 + 1]? = some (.cells (rb4 (pbit x sh fill) k) 24 (0, 0)) ∧ Below w.heap.size w wr)) (fun iv _ => 256 - (intOf iv).toNat)
  case atStart => exact ⟨0, by omega, rfl, Lib.hid ⟨(heap3 _ _ _ _).1, (heap3 _ _ _ _).2.1, (heap3 _ _ _ _).2.2, by go_grown⟩⟩
  case round =>
    obtain ⟨k, hk, rfl, H⟩ := hrel
    have hk0 : (0 : Int) ≤ k := by omega
    have hk1 : (k : Int) ≤ 256 := by omega
    by_cases hlt : k < 256
    · have hlt' : (k : Int) < 256 := by omega
      obtain ⟨p, hp⟩ : ∃ p : Nat, (k : Int) / 64 = (p : Int) := ⟨k / 64, by omega⟩
      obtain ⟨s, hs⟩ : ∃ s : Nat, (k : Int) % 64 = (s : Int) := ⟨k % 64, by omega⟩
      have hp0 : (0 : Int) ≤ p := by omega
      have hp1 : (p : Int) < 4 := by omega
      have hs0 : (0 : Int) ≤ s := by omega
      have hs1 : (s : Int) < 64 := by omega
      obtain ⟨c, hc⟩ : ∃ c, pbit x sh fill k = c := ⟨_, rfl⟩
      have hv := or_bit (bpt (pbit x sh fill) p k) c s (blow (by omega) (by omega) (fun j _ => pbit_lt _ _ _ _ HF.out)) (by rw [← hc]; exact pbit_lt _ _ _ _ HF.out) (by omega)
      have HV := Lib.hid hv; clear hv
      have HSET : Hid ((rb4 (pbit x sh fill) k).setIfInBounds p (.int .u64 ((bpt (pbit x sh fill) p k + c * 2 ^ s : Nat) : Int)) = rb4 (pbit x sh fill) (k + 1)) := Lib.hid (by rw [← hc]; exact rb4_set _ k p s hlt (by omega) (by omega))
      obtain ⟨kz, hkz⟩ : ∃ kz : Int, (k : Int) + sh = kz := ⟨_, rfl⟩
      have hz1 : -256 ≤ kz := by omega
      have hz2 : kz ≤ 512 := by omega
      by_cases r1 : 0 ≤ kz
      · by_cases r2 : kz < 256
        · obtain ⟨m, rfl⟩ := Int.eq_ofNat_of_zero_le r1
          have hcv : x % 115792089237316195423570985008687907853269984665640564039457584007913129639936 / 2 ^ m % 2 = c := by
            rw [← hc]; unfold pbit; rw [if_pos (by omega)]
            rw [hkz]; rfl
          have HB2 := Lib.hid (HB.out m (by omega))
          rw [hcv] at HB2
          have HCV := Lib.hid hcv; clear hcv hc
          have hi : (Tryd.prog.info? 24).map (·.size) = some 4 := by kernel_rfl
          have HI := Lib.hid hi; clear hi
          go_wp2_with (refine wpList_load_row rfl 24 _ rfl w.heap.size rfl 24 (pw x) (0, 0) _ H.out.1 Tryd.underlying24 rfl HI.out ?_)
          refine (HB2.out _).mono ?_
          rintro e w1 ⟨rfl, hb⟩
          have hsz : w.heap.size + 1 + 1 < wr.heap.size := (Array.getElem?_eq_some_iff.1 H.out.2.2.1).1
          have HX : Hid (w1.heap[w.heap.size]? = some (.cells (pw x) 24 (0, 0)) ∧ w1.heap[w.heap.size + 1]? = some (.cells (rb4 (pbit x sh fill) 0) 24 (0, 0)) ∧ w1.heap[w.heap.size + 1 + 1]? = some (.cells (rb4 (pbit x sh fill) k) 24 (0, 0)) ∧ Below w.heap.size w w1) := Lib.hid ⟨(hb.block _ (by omega)).trans H.out.1, (hb.block _ (by omega)).trans H.out.2.1, (hb.block _ hsz).trans H.out.2.2.1, H.out.2.2.2.trans (hb.mono H.out.2.2.2.size)⟩
          clear hb hsz
          have ca : w1.cell? ⟨w.heap.size + 1 + 1, p, none⟩ = some (.int .u64 (bpt (pbit x sh fill) p k : Nat)) := (cell_of_row _ _ p _ _ _ HX.out.2.2.1).trans (rb4_at _ k p (by omega))
          have cf : w1.frozen? ⟨w.heap.size + 1 + 1, p, none⟩ = false := frozen_of_row _ _ p _ _ HX.out.2.2.1
          go_wp2
          go_roundw
          case rel =>
            refine ⟨k + 1, by omega, by go_num, Lib.hid ⟨(heap_setCell_other w1 _ _ _ (by simp; omega)).trans HX.out.1, (heap_setCell_other w1 _ _ _ (by simp)).trans HX.out.2.1, ?_, HX.out.2.2.2.setCell (by simp; omega) _⟩⟩
            rw [HV.out, heap_setCell_same w1 _ _ _ _ _ HX.out.2.2.1, HSET.out]
          case measure => simp [intOf]; omega
        · have r3 : decide (kz < 256) = false := by rw [decide_eq_false_iff_not]; omega
          have hcv : fill = c := by
            rw [← hc]; unfold pbit; rw [if_neg (by omega)]
          subst hcv
          clear hc
          have HX := H
          have ca : wr.cell? ⟨w.heap.size + 1 + 1, p, none⟩ = some (.int .u64 (bpt (pbit x sh fill) p k : Nat)) := (cell_of_row _ _ p _ _ _ HX.out.2.2.1).trans (rb4_at _ k p (by omega))
          have cf : wr.frozen? ⟨w.heap.size + 1 + 1, p, none⟩ = false := frozen_of_row _ _ p _ _ HX.out.2.2.1
          go_wp2
          go_roundw
          case rel =>
            refine ⟨k + 1, by omega, by go_num, Lib.hid ⟨(heap_setCell_other wr _ _ _ (by simp; omega)).trans HX.out.1, (heap_setCell_other wr _ _ _ (by simp)).trans HX.out.2.1, ?_, HX.out.2.2.2.setCell (by simp; omega) _⟩⟩
            rw [HV.out, heap_setCell_same wr _ _ _ _ _ HX.out.2.2.1, HSET.out]
          case measure => simp [intOf]; omega
      · have r3 : decide (0 ≤ kz) = false := by rw [decide_eq_false_iff_not]; omega
        have hcv : fill = c := by
          rw [← hc]; unfold pbit; rw [if_neg (by omega)]
        subst hcv
        clear hc
        have HX := H
        have ca : wr.cell? ⟨w.heap.size + 1 + 1, p, none⟩ = some (.int .u64 (bpt (pbit x sh fill) p k : Nat)) := (cell_of_row _ _ p _ _ _ HX.out.2.2.1).trans (rb4_at _ k p (by omega))
        have cf : wr.frozen? ⟨w.heap.size + 1 + 1, p, none⟩ = false := frozen_of_row _ _ p _ _ HX.out.2.2.1
        go_wp2
        go_roundw
        case rel =>
          refine ⟨k + 1, by omega, by go_num, Lib.hid ⟨(heap_setCell_other wr _ _ _ (by simp; omega)).trans HX.out.1, (heap_setCell_other wr _ _ _ (by simp)).trans HX.out.2.1, ?_, HX.out.2.2.2.setCell (by simp; omega) _⟩⟩
          rw [HV.out, heap_setCell_same wr _ _ _ _ _ HX.out.2.2.1, HSET.out]
        case measure => simp [intOf]; omega
    · obtain rfl : k = 256 := by omega
      have hi : (Tryd.prog.info? 24).map (·.size) = some 4 := by kernel_rfl
      have HI := Lib.hid hi; clear hi
      go_wp2_with (first | (refine wpList_load_row rfl 24 _ rfl (w.heap.size + 1 + 1) rfl 24 _ (0, 0) _ H.out.2.2.1 Tryd.underlying24 rfl HI.out ?_) | (refine wpList_store_row rfl 24 _ _ rfl (w.heap.size + 1) (rb4 (pbit x sh fill) 256) rfl rfl 24 (rb4 (pbit x sh fill) 0) H.out.2.1 HI.out ((rb4_size _ _).trans (rb4_size _ _).symm) (rb4_one _ _) ?_))
      refine bodyPost_ret (v := .agg (rb4 (pbit x sh fill) 256)) (results_cell_row (p := 6) rfl _ _ (w.heap.size + 1) 24 _ (0, 0) _ rfl (setRow_heap _ _ _ _ _ _ H.out.2.1) Tryd.underlying24 rfl HI.out) rfl ⟨rfl, below_setRow H.out.2.2.2 (by omega) _⟩
-- WHAT pick COMES TO.
theorem pick_any (x fill : Nat) (sh : Int) (h1 : -256 ≤ sh) (h2 : sh ≤ 256) (hf : fill < 2) (w : World) :
    Calls Tryd.prog 82 #[wv x, .int .i64 sh, .int .u64 fill] w fun e w' => e = .returned (wv (vb (pbit x sh fill) 256)) ∧ Below w.heap.size w w' := by
  have h := pick_walk x fill sh h1 h2 hf w
  rw [rb4_wv _ (fun j _ => pbit_lt _ _ _ _ hf)] at h
  exact h
end Go.Proofs.YthfadinocadhaaaDoor
namespace Go.Proofs.YthfadinocadhaaaDoor
open Go.RowKit

theorem vb_mod (Y : Nat) (b : Nat → Nat) : ∀ n, (∀ i, i < n → b i = Y / 2 ^ i % 2) → vb b n = Y % 2 ^ n
  | 0, _ => by simp [vb, Nat.mod_one]
  | n + 1, h => by
    simp only [vb]
    rw [vb_mod Y b n (fun i hi => h i (by omega)), h n (by omega), Nat.pow_succ, Nat.mod_mul]
/-- Shifts up, bit by bit. -/
theorem vb_shl (x n : Nat) : wv (vb (pbit x (-(n : Int)) 0) 256) = wv (x * 2 ^ n) := by
  rw [vb_mod (x % 115792089237316195423570985008687907853269984665640564039457584007913129639936 * 2 ^ n) _ 256 (fun i hi => ?_)]
  · apply wv_congr
    rw [show (2 : Nat) ^ 256 = 115792089237316195423570985008687907853269984665640564039457584007913129639936 by rfl, Nat.mod_mod, Nat.mod_mul_mod]
  · unfold pbit
    by_cases h : n ≤ i
    · rw [if_pos (by omega), show ((i : Int) + -(n : Int)).toNat = i - n by omega]
      have e : 2 ^ i = 2 ^ n * 2 ^ (i - n) := by rw [← Nat.pow_add, show n + (i - n) = i by omega]
      rw [e, ← Nat.div_div_eq_div_mul, Nat.mul_div_cancel _ (Nat.two_pow_pos n)]
    · rw [if_neg (by omega)]
      have e : 2 ^ n = 2 ^ i * (2 * 2 ^ (n - i - 1)) := by rw [← Nat.pow_succ', ← Nat.pow_add, show i + (n - i - 1 + 1) = n by omega]
      rw [e, ← Nat.mul_assoc, Nat.mul_comm (x % 115792089237316195423570985008687907853269984665640564039457584007913129639936), Nat.mul_assoc, Nat.mul_div_cancel_left _ (Nat.two_pow_pos i), ← Nat.mul_assoc, Nat.mul_comm _ 2, Nat.mul_assoc, Nat.mul_mod_right]
/-- Shifts down, bit by bit. -/
theorem vb_shr (x n : Nat) : wv (vb (pbit x (n : Int) 0) 256) = wv (x % 115792089237316195423570985008687907853269984665640564039457584007913129639936 / 2 ^ n) := by
  rw [vb_mod (x % 115792089237316195423570985008687907853269984665640564039457584007913129639936 / 2 ^ n) _ 256 (fun i hi => ?_)]
  · apply wv_congr
    rw [show (2 : Nat) ^ 256 = 115792089237316195423570985008687907853269984665640564039457584007913129639936 by rfl, Nat.mod_mod]
  · unfold pbit
    rw [Nat.div_div_eq_div_mul, ← Nat.pow_add, Nat.add_comm n i]
    by_cases h : i + n < 256
    · rw [if_pos (by omega), show ((i : Int) + (n : Int)).toNat = i + n by omega]
    · rw [if_neg (by omega)]
      have h1 : x % 115792089237316195423570985008687907853269984665640564039457584007913129639936 < 2 ^ (i + n) := Nat.lt_of_lt_of_le (Nat.mod_lt _ (by omega)) (show 115792089237316195423570985008687907853269984665640564039457584007913129639936 ≤ 2 ^ (i + n) from Nat.le_trans (show 115792089237316195423570985008687907853269984665640564039457584007913129639936 ≤ 2 ^ 256 by decide) (Nat.pow_le_pow_right (by omega) (by omega)))
      rw [Nat.div_eq_of_lt h1]
theorem bit_test (y i : Nat) : y / 2 ^ i % 2 = if y.testBit i then 1 else 0 := by
  rw [Nat.testBit_eq_decide_div_mod_eq]
  by_cases h : y / 2 ^ i % 2 = 1
  · rw [h]; rfl
  · rw [decide_eq_false h]; simp; omega
/-- Shifts down of signed ones, bit by bit. -/
theorem vb_sar (x n : Nat) : wv (vb (pbit x (n : Int) (x % 115792089237316195423570985008687907853269984665640564039457584007913129639936 / 57896044618658097711785492504343953926634992332820282019728792003956564819968)) 256) = wv (sarN n (x % 115792089237316195423570985008687907853269984665640564039457584007913129639936)) := by
  have hX : x % 115792089237316195423570985008687907853269984665640564039457584007913129639936 < 115792089237316195423570985008687907853269984665640564039457584007913129639936 := Nat.mod_lt _ (by omega)
  unfold sarN
  by_cases h : 57896044618658097711785492504343953926634992332820282019728792003956564819968 ≤ x % 115792089237316195423570985008687907853269984665640564039457584007913129639936
  · rw [if_pos h, show x % 115792089237316195423570985008687907853269984665640564039457584007913129639936 / 57896044618658097711785492504343953926634992332820282019728792003956564819968 = 1 by omega]
    rw [vb_mod (115792089237316195423570985008687907853269984665640564039457584007913129639935 - (115792089237316195423570985008687907853269984665640564039457584007913129639935 - x % 115792089237316195423570985008687907853269984665640564039457584007913129639936) / 2 ^ n) _ 256 (fun i hi => ?_)]
    · apply wv_congr
      rw [show (2 : Nat) ^ 256 = 115792089237316195423570985008687907853269984665640564039457584007913129639936 by rfl, Nat.mod_mod]
    · unfold pbit
      generalize x % 115792089237316195423570985008687907853269984665640564039457584007913129639936 = X at *
      have hd : (115792089237316195423570985008687907853269984665640564039457584007913129639935 - X) / 2 ^ n ≤ 115792089237316195423570985008687907853269984665640564039457584007913129639935 - X := Nat.div_le_self _ _
      have e1 : 115792089237316195423570985008687907853269984665640564039457584007913129639935 - (115792089237316195423570985008687907853269984665640564039457584007913129639935 - X) / 2 ^ n = 2 ^ 256 - ((115792089237316195423570985008687907853269984665640564039457584007913129639935 - X) / 2 ^ n + 1) := by rw [show (2 : Nat) ^ 256 = 115792089237316195423570985008687907853269984665640564039457584007913129639936 by rfl]; omega
      rw [bit_test _ i, e1, Nat.testBit_two_pow_sub_succ (by rw [show (2 : Nat) ^ 256 = 115792089237316195423570985008687907853269984665640564039457584007913129639936 by rfl]; omega)]
      have e2 : 115792089237316195423570985008687907853269984665640564039457584007913129639935 - X = 2 ^ 256 - (X + 1) := by rw [show (2 : Nat) ^ 256 = 115792089237316195423570985008687907853269984665640564039457584007913129639936 by rfl]; omega
      rw [Nat.testBit_div_two_pow, e2, Nat.testBit_two_pow_sub_succ (by rw [show (2 : Nat) ^ 256 = 115792089237316195423570985008687907853269984665640564039457584007913129639936 by rfl]; omega)]
      by_cases l : i + n < 256
      · rw [if_pos (by omega), show ((i : Int) + (n : Int)).toNat = i + n by omega, bit_test]
        simp [hi, l]
      · rw [if_neg (by omega)]
        simp [hi, l]
  · rw [if_neg h, show x % 115792089237316195423570985008687907853269984665640564039457584007913129639936 / 57896044618658097711785492504343953926634992332820282019728792003956564819968 = 0 by omega]
    exact vb_shr x n

set_option maxRecDepth 100000 in
set_option maxHeartbeats 1000000 in
theorem num_far1 (a0 a1 a2 a3 : Nat) (h1 : ((a1 : Int) != 0) = true) (w : World) : Calls Tryd.prog 79 #[.agg #[.int .u64 a0, .int .u64 a1, .int .u64 a2, .int .u64 a3]] w fun e w' => e = .returned (.int .i64 256) ∧ Below w.heap.size w w' := by
  go_enter Tryd.func79, Tryd.ntmps79
  go_wp2
  go_ret
  exact ⟨rfl, by go_grown⟩
set_option maxRecDepth 100000 in
set_option maxHeartbeats 1000000 in
theorem num_far2 (a0 a2 a3 : Nat) (h2 : ((a2 : Int) != 0) = true) (w : World) : Calls Tryd.prog 79 #[.agg #[.int .u64 a0, .int .u64 0, .int .u64 a2, .int .u64 a3]] w fun e w' => e = .returned (.int .i64 256) ∧ Below w.heap.size w w' := by
  go_enter Tryd.func79, Tryd.ntmps79
  go_wp2
  go_ret
  exact ⟨rfl, by go_grown⟩
set_option maxRecDepth 100000 in
set_option maxHeartbeats 1000000 in
theorem num_far3 (a0 a3 : Nat) (h3 : ((a3 : Int) != 0) = true) (w : World) : Calls Tryd.prog 79 #[.agg #[.int .u64 a0, .int .u64 0, .int .u64 0, .int .u64 a3]] w fun e w' => e = .returned (.int .i64 256) ∧ Below w.heap.size w w' := by
  go_enter Tryd.func79, Tryd.ntmps79
  go_wp2
  go_ret
  exact ⟨rfl, by go_grown⟩
set_option maxRecDepth 100000 in
set_option maxHeartbeats 1000000 in
theorem num_far0 (a0 : Nat) (h0 : (256 : Int) < a0) (w : World) : Calls Tryd.prog 79 #[.agg #[.int .u64 a0, .int .u64 0, .int .u64 0, .int .u64 0]] w fun e w' => e = .returned (.int .i64 256) ∧ Below w.heap.size w w' := by
  go_enter Tryd.func79, Tryd.ntmps79
  go_wp2
  go_ret
  exact ⟨rfl, by go_grown⟩
set_option maxRecDepth 100000 in
set_option maxHeartbeats 1000000 in
theorem num_in (a0 : Nat) (h0 : (a0 : Int) ≤ 256) (w : World) : Calls Tryd.prog 79 #[.agg #[.int .u64 a0, .int .u64 0, .int .u64 0, .int .u64 0]] w fun e w' => e = .returned (.int .i64 a0) ∧ Below w.heap.size w w' := by
  have h00 : (0 : Int) ≤ a0 := by omega
  go_enter Tryd.func79, Tryd.ntmps79
  go_wp2
  go_ret
  exact ⟨rfl, by go_grown⟩
-- WHAT Num COMES TO.
theorem num_any (k : Nat) (w : World) : Calls Tryd.prog 79 #[wv k] w fun e w' => e = .returned (.int .i64 ((min (k % 115792089237316195423570985008687907853269984665640564039457584007913129639936) 256 : Nat) : Int)) ∧ Below w.heap.size w w' := by
  obtain ⟨a0, a1, a2, a3, u0, u1, u2, u3, ea, na⟩ := wv_parts k
  rw [ea, ← na]
  by_cases h1 : a1 = 0
  · subst h1
    by_cases h2 : a2 = 0
    · subst h2
      by_cases h3 : a3 = 0
      · subst h3
        by_cases h0 : a0 ≤ 256
        · rw [show min (n4 a0 0 0 0) 256 = a0 by unfold n4; omega]
          exact num_in a0 (by omega) w
        · rw [show min (n4 a0 0 0 0) 256 = 256 by unfold n4; omega]
          exact num_far0 a0 (by omega) w
      · rw [show min (n4 a0 0 0 a3) 256 = 256 by unfold n4; omega]
        exact num_far3 a0 a3 (by rw [bne_iff_ne]; omega) w
    · rw [show min (n4 a0 0 a2 a3) 256 = 256 by unfold n4; omega]
      exact num_far2 a0 a2 a3 (by rw [bne_iff_ne]; omega) w
  · rw [show min (n4 a0 a1 a2 a3) 256 = 256 by unfold n4; omega]
    exact num_far1 a0 a1 a2 a3 (by rw [bne_iff_ne]; omega) w
theorem un_negi (n : Nat) (h : n ≤ 256) (w : World) : (Op.unary UnOp.neg (.int .i64 n)).run Tryd.prog w = .ok (.int .i64 (-(n : Int))) w := by
  have e : IntKind.i64.wrap (-(n : Int)) = -(n : Int) := IntWalk.i64_in _ (by omega)
  go_simp

set_option maxRecDepth 100000 in
set_option maxHeartbeats 2000000 in
-- WHAT bailiwickref01.Shl COMES TO.
theorem shl_ref (k x : Nat) (w : World) :
    Calls Tryd.prog 38 #[.agg (pw k), .agg (pw x)] w fun e w' => e = .returned (wv (x * 2 ^ min (k % 115792089237316195423570985008687907853269984665640564039457584007913129639936) 256)) ∧ Below w.heap.size w w' := by
  go_enter Tryd.func38, Tryd.ntmps38
  go_wp2_with fail
  refine region_inv (CB w k x) (fun i v wx => match i with | 0 => v = wv x | 1 => v = wv k | 2 => v = .int .i64 ((min (k % 115792089237316195423570985008687907853269984665640564039457584007913129639936) 256 : Nat) : Int) | 3 => v = .int .i64 (-((min (k % 115792089237316195423570985008687907853269984665640564039457584007913129639936) 256 : Nat) : Int)) | 4 => v = wv (x * 2 ^ min (k % 115792089237316195423570985008687907853269984665640564039457584007913129639936) 256) | 5 => wx.heap[(w.heap.size + 1 + 1)]? = some (.cells (pw (x * 2 ^ min (k % 115792089237316195423570985008687907853269984665640564039457584007913129639936) 256)) 24 (0, 0)) | _ => True) (Rs (w.heap.size + 1 + 1) (x * 2 ^ min (k % 115792089237316195423570985008687907853269984665640564039457584007913129639936) 256)) (by kernel_rfl) (by kernel_rfl) ?_ ?_ ?_ ?_
  · exact ⟨by go_grown, (heap3 _ _ _ _).1, (heap3 _ _ _ _).2.1, _, rfl, (heap3 _ _ _ _).2.2⟩
  · intro i v wa wb hR h
    match i, h with
    | 0, h => exact h
    | 1, h => exact h
    | 2, h => exact h
    | 3, h => exact h
    | 4, h => exact h
    | 5, h => exact hR.2 h
    | _ + 6, _ => trivial
  · refine ⟨fun a wx hC hK => ?_, fun a wx hC hK => ?_, fun a wx hC hK => ?_, fun a wx hC hK => ?_, fun a wx hC hK => ?_, fun a wx hC hK => ?_, trivial⟩
    · exact st_load 24 (.tmp 3) (.pointer (some ⟨w.heap.size + 1, 0, none⟩)) (wv x) rfl (by kernel_rfl) (fun h => by cases h) (hK.1 3 (by kernel_rfl)) (load_pw hC.2.2.1) hC rfl (Rs.refl _ _ _)
    · exact st_load 24 (.tmp 2) (.pointer (some ⟨w.heap.size, 0, none⟩)) (wv k) rfl (by kernel_rfl) (fun h => by cases h) (hK.1 2 (by kernel_rfl)) (load_pw hC.2.1) hC rfl (Rs.refl _ _ _)
    · have h0 : a.tmps.getD 6 undef = wv k := hK.2 ⟨1, .data⟩ (by simp) rfl _ rfl
      refine st_call 79 #[a.tmps.getD 6 undef] (by kernel_rfl) ⟨_, rfl⟩ (by kernel_rfl) ?_
      rw [h0]
      exact (num_any k wx).mono fun e w' h => ⟨_, h.1, hC.below h.2, rfl, Rs.of hC.lt h.2⟩
    · have h0 : a.tmps.getD 7 undef = .int .i64 ((min (k % 115792089237316195423570985008687907853269984665640564039457584007913129639936) 256 : Nat) : Int) := hK.2 ⟨2, .data⟩ (by simp) rfl _ rfl
      refine st_val (.int .i64 (-((min (k % 115792089237316195423570985008687907853269984665640564039457584007913129639936) 256 : Nat) : Int))) (by kernel_rfl) (fun h => by cases h) ?_ hC rfl (Rs.refl _ _ _)
      have hu := un_negi (min (k % 115792089237316195423570985008687907853269984665640564039457584007913129639936) 256) (by omega) wx
      show (do let v ← Op.unary UnOp.neg (a.tmps.getD 7 undef); pure (Next.value v) : Sem Next).run Tryd.prog wx = _
      rw [h0]
      simp only [Sem.run_bind, hu, Result.andThen_ok, Sem.run_pure]
    · have h0 : a.tmps.getD 5 undef = wv x := hK.2 ⟨0, .data⟩ (by simp) rfl _ rfl
      have h1 : (a.tmps.getD 8 undef) = .int .i64 (-((min (k % 115792089237316195423570985008687907853269984665640564039457584007913129639936) 256 : Nat) : Int)) := hK.2 ⟨3, .data⟩ (by simp) rfl _ rfl
      refine st_call 82 #[a.tmps.getD 5 undef, (a.tmps.getD 8 undef), .int .u64 0] (by kernel_rfl) ⟨_, rfl⟩ (by kernel_rfl) ?_
      rw [h0, h1]
      have hp := pick_any x 0 (-((min (k % 115792089237316195423570985008687907853269984665640564039457584007913129639936) 256 : Nat) : Int)) (by omega) (by omega) (by omega) wx
      rw [vb_shl] at hp
      exact hp.mono fun e w' h => ⟨_, h.1, hC.below h.2, rfl, Rs.of hC.lt h.2⟩
    · have h0 : a.tmps.getD 9 undef = wv (x * 2 ^ min (k % 115792089237316195423570985008687907853269984665640564039457584007913129639936) 256) := hK.2 ⟨4, .data⟩ (by simp) rfl _ rfl
      obtain ⟨-, -, -, cs, hcs, hrow⟩ := id hC
      exact st_store (by kernel_rfl) (run_store 24 (.tmp 4) (.tmp 9) _ _ rfl (hK.1 4 (by kernel_rfl)) h0 (store_pw hcs hrow)) (hC.row _ rfl) (setRow_heap _ _ _ _ _ _ hrow) (Rs.row hrow)
  · intro f wx hC hf
    have h6 : wx.heap[(w.heap.size + 1 + 1)]? = some (.cells (pw (x * 2 ^ min (k % 115792089237316195423570985008687907853269984665640564039457584007913129639936) 256)) 24 (0, 0)) := hf 5 _ rfl
    generalize hA : putAll _ _ _ = A
    have h4 : A.tmps.getD 4 undef = Value.pointer (some ⟨(w.heap.size + 1 + 1), 0, none⟩) := by subst hA; kernel_rfl
    have hd : A.defers = [] := by subst hA; kernel_rfl
    clear hA hf
    go_wp2
    (try simp only [Exit.inBlock, Exit.then])
    exact bodyPost_ret (v := .agg (pw (x * 2 ^ min (k % 115792089237316195423570985008687907853269984665640564039457584007913129639936) 256))) (results_cell_row (p := 4) rfl _ _ (w.heap.size + 1 + 1) 24 _ (0, 0) _ h4 h6 Tryd.underlying24 rfl infoWord) hd ⟨rfl, hC.1⟩

set_option maxRecDepth 100000 in
set_option maxHeartbeats 2000000 in
-- WHAT bailiwickref01.Shr COMES TO.
theorem shr_ref (k x : Nat) (w : World) :
    Calls Tryd.prog 40 #[.agg (pw k), .agg (pw x)] w fun e w' => e = .returned (wv (x % 115792089237316195423570985008687907853269984665640564039457584007913129639936 / 2 ^ min (k % 115792089237316195423570985008687907853269984665640564039457584007913129639936) 256)) ∧ Below w.heap.size w w' := by
  go_enter Tryd.func40, Tryd.ntmps40
  go_wp2_with fail
  refine region_inv (CB w k x) (fun i v wx => match i with | 0 => v = wv x | 1 => v = wv k | 2 => v = .int .i64 ((min (k % 115792089237316195423570985008687907853269984665640564039457584007913129639936) 256 : Nat) : Int) | 3 => v = wv (x % 115792089237316195423570985008687907853269984665640564039457584007913129639936 / 2 ^ min (k % 115792089237316195423570985008687907853269984665640564039457584007913129639936) 256) | 4 => wx.heap[(w.heap.size + 1 + 1)]? = some (.cells (pw (x % 115792089237316195423570985008687907853269984665640564039457584007913129639936 / 2 ^ min (k % 115792089237316195423570985008687907853269984665640564039457584007913129639936) 256)) 24 (0, 0)) | _ => True) (Rs (w.heap.size + 1 + 1) (x % 115792089237316195423570985008687907853269984665640564039457584007913129639936 / 2 ^ min (k % 115792089237316195423570985008687907853269984665640564039457584007913129639936) 256)) (by kernel_rfl) (by kernel_rfl) ?_ ?_ ?_ ?_
  · exact ⟨by go_grown, (heap3 _ _ _ _).1, (heap3 _ _ _ _).2.1, _, rfl, (heap3 _ _ _ _).2.2⟩
  · intro i v wa wb hR h
    match i, h with
    | 0, h => exact h
    | 1, h => exact h
    | 2, h => exact h
    | 3, h => exact h
    | 4, h => exact hR.2 h
    | _ + 5, _ => trivial
  · refine ⟨fun a wx hC hK => ?_, fun a wx hC hK => ?_, fun a wx hC hK => ?_, fun a wx hC hK => ?_, fun a wx hC hK => ?_, trivial⟩
    · exact st_load 24 (.tmp 3) (.pointer (some ⟨w.heap.size + 1, 0, none⟩)) (wv x) rfl (by kernel_rfl) (fun h => by cases h) (hK.1 3 (by kernel_rfl)) (load_pw hC.2.2.1) hC rfl (Rs.refl _ _ _)
    · exact st_load 24 (.tmp 2) (.pointer (some ⟨w.heap.size, 0, none⟩)) (wv k) rfl (by kernel_rfl) (fun h => by cases h) (hK.1 2 (by kernel_rfl)) (load_pw hC.2.1) hC rfl (Rs.refl _ _ _)
    · have h0 : a.tmps.getD 6 undef = wv k := hK.2 ⟨1, .data⟩ (by simp) rfl _ rfl
      refine st_call 79 #[a.tmps.getD 6 undef] (by kernel_rfl) ⟨_, rfl⟩ (by kernel_rfl) ?_
      rw [h0]
      exact (num_any k wx).mono fun e w' h => ⟨_, h.1, hC.below h.2, rfl, Rs.of hC.lt h.2⟩
    · have h0 : a.tmps.getD 5 undef = wv x := hK.2 ⟨0, .data⟩ (by simp) rfl _ rfl
      have h1 : (a.tmps.getD 7 undef) = .int .i64 ((min (k % 115792089237316195423570985008687907853269984665640564039457584007913129639936) 256 : Nat) : Int) := hK.2 ⟨2, .data⟩ (by simp) rfl _ rfl
      refine st_call 82 #[a.tmps.getD 5 undef, (a.tmps.getD 7 undef), .int .u64 0] (by kernel_rfl) ⟨_, rfl⟩ (by kernel_rfl) ?_
      rw [h0, h1]
      have hp := pick_any x 0 ((min (k % 115792089237316195423570985008687907853269984665640564039457584007913129639936) 256 : Nat) : Int) (by omega) (by omega) (by omega) wx
      rw [vb_shr] at hp
      exact hp.mono fun e w' h => ⟨_, h.1, hC.below h.2, rfl, Rs.of hC.lt h.2⟩
    · have h0 : a.tmps.getD 8 undef = wv (x % 115792089237316195423570985008687907853269984665640564039457584007913129639936 / 2 ^ min (k % 115792089237316195423570985008687907853269984665640564039457584007913129639936) 256) := hK.2 ⟨3, .data⟩ (by simp) rfl _ rfl
      obtain ⟨-, -, -, cs, hcs, hrow⟩ := id hC
      exact st_store (by kernel_rfl) (run_store 24 (.tmp 4) (.tmp 8) _ _ rfl (hK.1 4 (by kernel_rfl)) h0 (store_pw hcs hrow)) (hC.row _ rfl) (setRow_heap _ _ _ _ _ _ hrow) (Rs.row hrow)
  · intro f wx hC hf
    have h6 : wx.heap[(w.heap.size + 1 + 1)]? = some (.cells (pw (x % 115792089237316195423570985008687907853269984665640564039457584007913129639936 / 2 ^ min (k % 115792089237316195423570985008687907853269984665640564039457584007913129639936) 256)) 24 (0, 0)) := hf 4 _ rfl
    generalize hA : putAll _ _ _ = A
    have h4 : A.tmps.getD 4 undef = Value.pointer (some ⟨(w.heap.size + 1 + 1), 0, none⟩) := by subst hA; kernel_rfl
    have hd : A.defers = [] := by subst hA; kernel_rfl
    clear hA hf
    go_wp2
    (try simp only [Exit.inBlock, Exit.then])
    exact bodyPost_ret (v := .agg (pw (x % 115792089237316195423570985008687907853269984665640564039457584007913129639936 / 2 ^ min (k % 115792089237316195423570985008687907853269984665640564039457584007913129639936) 256))) (results_cell_row (p := 4) rfl _ _ (w.heap.size + 1 + 1) 24 _ (0, 0) _ h4 h6 Tryd.underlying24 rfl infoWord) hd ⟨rfl, hC.1⟩
end Go.Proofs.YthfadinocadhaaaDoor
namespace Go.Proofs.YthfadinocadhaaaDoor
open Go.RowKit

/-- A number, of which the bit at s is c. -/
def bset (z c s : Nat) : Nat := z % 2 ^ s + c * 2 ^ s + z / 2 ^ (s + 1) * 2 ^ (s + 1)
theorem bset_bit (z c s j : Nat) (hc : c < 2) : (bset z c s).testBit j = if j = s then decide (c = 1) else z.testBit j := by
  have h1 : z % 2 ^ s < 2 ^ s := Nat.mod_lt _ (Nat.two_pow_pos s)
  have e : bset z c s = 2 ^ s * (2 * (z / 2 ^ (s + 1)) + c) + z % 2 ^ s := by
    unfold bset; rw [Nat.pow_succ, Nat.mul_add, Nat.mul_comm c, Nat.mul_comm (z / (2 ^ s * 2)), ← Nat.mul_assoc]; omega
  rw [e, Nat.testBit_two_pow_mul_add _ h1]
  by_cases l : j < s
  · rw [if_pos l, if_neg (by omega), Nat.testBit_mod_two_pow]; simp [l]
  · rw [if_neg l]
    by_cases q : j = s
    · subst q; rw [Nat.sub_self, if_pos rfl, Nat.testBit_zero]; simp; omega
    · rw [if_neg q]
      obtain ⟨k, rfl⟩ : ∃ k, j = s + 1 + k := ⟨j - (s + 1), by omega⟩
      rw [show s + 1 + k - s = k + 1 by omega, Nat.testBit_succ, show (2 * (z / 2 ^ (s + 1)) + c) / 2 = z / 2 ^ (s + 1) by omega, Nat.testBit_div_two_pow, Nat.add_comm]
theorem bset_lt {z c s n : Nat} (hc : c < 2) (hz : z < 2 ^ n) (hs : s < n) : bset z c s < 2 ^ n := by
  refine Nat.lt_pow_two_of_testBit _ fun j hj => ?_
  rw [bset_bit _ _ _ _ hc, if_neg (by omega)]
  exact Nat.testBit_lt_two_pow (Nat.lt_of_lt_of_le hz (Nat.pow_le_pow_right (by omega) hj))
theorem part_bset (z c s : Nat) (hz : z < 18446744073709551616) (hs : s ≤ 63) (hc : c < 2) :
    bits .or .u64 (bits .andNot .u64 (z : Int) (IntKind.u64.wrap (2 ^ s))) (IntKind.u64.wrap ((c : Int) * 2 ^ s)) = ((bset z c s : Nat) : Int) := by
  have h1 : 2 ^ s ≤ 2 ^ 63 := Nat.pow_le_pow_right (by omega) hs
  have h0 := Nat.two_pow_pos s
  have h2 : c * 2 ^ s ≤ 1 * 2 ^ 63 := Nat.mul_le_mul (by omega) h1
  have e1 : IntKind.u64.wrap (2 ^ s) = ((2 ^ s : Nat) : Int) := by
    rw [IntKind.wrap_u64]
    have e0 : (2 : Int) ^ s = ((2 ^ s : Nat) : Int) := by simp
    rw [e0]; omega
  have e2 : IntKind.u64.wrap ((c : Int) * 2 ^ s) = ((c * 2 ^ s : Nat) : Int) := by
    rw [IntKind.wrap_u64]
    have e0 : (c : Int) * 2 ^ s = ((c * 2 ^ s : Nat) : Int) := by simp
    rw [e0]; omega
  have h3 : z &&& (18446744073709551615 - 2 ^ s) ≤ z := Nat.and_le_left
  rw [e1, e2, u64_andNot_nat z _ hz (by omega), bits_or_u64_nat _ _ (by omega) (by omega)]
  congr 1
  refine Nat.eq_of_testBit_eq fun j => ?_
  rw [bset_bit _ _ _ _ hc, Nat.testBit_or, Nat.testBit_and, show 18446744073709551615 - 2 ^ s = 2 ^ 64 - (2 ^ s + 1) by rw [show (2 : Nat) ^ 64 = 18446744073709551616 by rfl]; omega, Nat.testBit_two_pow_sub_succ (by rw [show (2 : Nat) ^ 64 = 18446744073709551616 by rfl]; omega), Nat.testBit_two_pow]
  have hj : ¬ j < 64 → z.testBit j = false := fun h => Nat.testBit_lt_two_pow (Nat.lt_of_lt_of_le hz (by rw [show 18446744073709551616 = 2 ^ 64 by rfl]; exact Nat.pow_le_pow_right (by omega) (by omega)))
  have hcb : (c * 2 ^ s).testBit j = (decide (j = s) && decide (c = 1)) := by
    have : c = 0 ∨ c = 1 := by omega
    rcases this with rfl | rfl
    · simp
    · rw [Nat.one_mul, Nat.testBit_two_pow]; simp [eq_comm]
  rw [hcb]
  by_cases q : j = s
  · subst q; simp
  · rw [if_neg q]
    by_cases l : j < 64
    · simp [q, l, Ne.symm q]
    · simp [q, hj l]
/-- A number's part. -/
def sx (x c a : Nat) : Nat → Nat
  | 0 => x
  | k + 1 => bset (sx x c a k) c (a + k)
theorem sx_bit (x c a j : Nat) (hc : c < 2) : ∀ k, (sx x c a k).testBit j = if a ≤ j ∧ j < a + k then decide (c = 1) else x.testBit j
  | 0 => by rw [if_neg (by omega)]; rfl
  | k + 1 => by
    unfold sx
    rw [bset_bit _ _ _ _ hc, sx_bit x c a j hc k]
    by_cases h : j = a + k
    · rw [if_pos h, if_pos (by omega)]
    · rw [if_neg h]
      by_cases h2 : a ≤ j ∧ j < a + k
      · rw [if_pos h2, if_pos (by omega)]
      · rw [if_neg h2, if_neg (by omega)]
theorem sx_lt (x c a n : Nat) (hc : c < 2) (hx : x < 2 ^ n) : ∀ k, a + k ≤ n → sx x c a k < 2 ^ n
  | 0, _ => hx
  | k + 1, h => bset_lt hc (sx_lt x c a n hc hx k (by omega)) (by omega)
theorem pN_bit (x p j : Nat) (hp : p < 4) : (pN x p).testBit j = (decide (j < 64) && x.testBit (64 * p + j)) := by
  unfold pN
  rw [show 18446744073709551616 = 2 ^ 64 by rfl, Nat.testBit_mod_two_pow, Nat.testBit_div_two_pow, show 115792089237316195423570985008687907853269984665640564039457584007913129639936 = 2 ^ 256 by rfl, Nat.testBit_mod_two_pow]
  by_cases h : j < 64
  · simp [h, show j + 64 * p < 256 by omega, Nat.add_comm]
  · simp [h]
theorem pN_bset (x c i q : Nat) (hc : c < 2) (hq : q < 4) : pN (bset x c i) q = if i / 64 = q then bset (pN x q) c (i % 64) else pN x q := by
  refine Nat.eq_of_testBit_eq fun j => ?_
  rw [pN_bit _ _ _ hq, bset_bit _ _ _ _ hc]
  by_cases h : i / 64 = q
  · rw [if_pos h, bset_bit _ _ _ _ hc, pN_bit _ _ _ hq]
    by_cases e : j = i % 64
    · subst h; rw [if_pos e, if_pos (by omega)]; simp [show j < 64 by omega]
    · rw [if_neg e]
      by_cases l : j < 64
      · rw [if_neg (by omega)]
      · simp [l]
  · rw [if_neg h, pN_bit _ _ _ hq]
    by_cases l : j < 64
    · rw [if_neg (by omega)]
    · simp [l]
theorem sarN_bit (s y j : Nat) (hy : y < 2 ^ 256) (hj : j < 256) : (sarN s y).testBit j = if j + s < 256 then y.testBit (j + s) else y.testBit 255 := by
  have hp : (2 : Nat) ^ 256 = 115792089237316195423570985008687907853269984665640564039457584007913129639936 := by rfl
  have ht : y.testBit 255 = decide (57896044618658097711785492504343953926634992332820282019728792003956564819968 ≤ y) := by
    rw [Nat.testBit_eq_decide_div_mod_eq, show (2 : Nat) ^ 255 = 57896044618658097711785492504343953926634992332820282019728792003956564819968 by rfl]
    rw [Bool.eq_iff_iff, decide_eq_true_eq, decide_eq_true_eq]; omega
  rw [ht]
  unfold sarN
  by_cases h : 57896044618658097711785492504343953926634992332820282019728792003956564819968 ≤ y
  · rw [if_pos h]
    have hd : (115792089237316195423570985008687907853269984665640564039457584007913129639935 - y) / 2 ^ s ≤ 115792089237316195423570985008687907853269984665640564039457584007913129639935 - y := Nat.div_le_self _ _
    have e1 : 115792089237316195423570985008687907853269984665640564039457584007913129639935 - (115792089237316195423570985008687907853269984665640564039457584007913129639935 - y) / 2 ^ s = 2 ^ 256 - ((115792089237316195423570985008687907853269984665640564039457584007913129639935 - y) / 2 ^ s + 1) := by omega
    have e2 : 115792089237316195423570985008687907853269984665640564039457584007913129639935 - y = 2 ^ 256 - (y + 1) := by omega
    rw [e1, Nat.testBit_two_pow_sub_succ (by omega), Nat.testBit_div_two_pow, e2, Nat.testBit_two_pow_sub_succ hy]
    by_cases l : j + s < 256
    · rw [if_pos l]; simp [hj, l]
    · rw [if_neg l]; simp [hj, l, h]
  · rw [if_neg h, Nat.testBit_div_two_pow]
    by_cases l : j + s < 256
    · rw [if_pos l]
    · rw [if_neg l, decide_eq_false h]
      exact Nat.testBit_lt_two_pow (Nat.lt_of_lt_of_le hy (Nat.pow_le_pow_right (by omega) (by omega)))
theorem sarN_lt (s y : Nat) (hy : y < 2 ^ 256) : sarN s y < 2 ^ 256 := by
  have hp : (2 : Nat) ^ 256 = 115792089237316195423570985008687907853269984665640564039457584007913129639936 := by rfl
  unfold sarN
  split
  · exact Nat.lt_of_le_of_lt (Nat.sub_le _ _) (by omega)
  · exact Nat.lt_of_le_of_lt (Nat.div_le_self _ _) hy
theorem sx_sext (x n : Nat) (hn : n ≤ 30) (hx : x < 2 ^ 256) : sx x (x / 2 ^ (8 * n + 7) % 2) (8 * n + 8) (248 - 8 * n) = sarN (8 * (31 - n)) (x * 2 ^ (8 * (31 - n)) % 115792089237316195423570985008687907853269984665640564039457584007913129639936) := by
  have hp : (2 : Nat) ^ 256 = 115792089237316195423570985008687907853269984665640564039457584007913129639936 := by rfl
  have hy : x * 2 ^ (8 * (31 - n)) % 115792089237316195423570985008687907853269984665640564039457584007913129639936 < 2 ^ 256 := by rw [hp]; exact Nat.mod_lt _ (by omega)
  have hc : x / 2 ^ (8 * n + 7) % 2 < 2 := Nat.mod_lt _ (by omega)
  have hb : ∀ j, j < 256 → (x * 2 ^ (8 * (31 - n)) % 115792089237316195423570985008687907853269984665640564039457584007913129639936).testBit j = (decide (8 * (31 - n) ≤ j) && x.testBit (j - 8 * (31 - n))) := fun j hj => by
    rw [← hp, Nat.testBit_mod_two_pow, Nat.mul_comm, Nat.testBit_two_pow_mul]; simp [hj]
  refine Nat.eq_of_testBit_eq fun j => ?_
  by_cases hj : j < 256
  · rw [sx_bit _ _ _ _ hc, sarN_bit _ _ _ hy hj]
    by_cases l : j + 8 * (31 - n) < 256
    · rw [if_neg (by omega), if_pos l, hb _ l]
      simp
    · rw [if_pos (by omega), if_neg l, hb _ (by omega), show 255 - 8 * (31 - n) = 8 * n + 7 by omega, Nat.testBit_eq_decide_div_mod_eq]
      simp; omega
  · rw [Nat.testBit_lt_two_pow (Nat.lt_of_lt_of_le (sx_lt _ _ _ 256 hc hx _ (by omega)) (Nat.pow_le_pow_right (by omega) (by omega))), Nat.testBit_lt_two_pow (Nat.lt_of_lt_of_le (sarN_lt _ _ hy) (Nat.pow_le_pow_right (by omega) (by omega)))]
theorem pw_mod (x : Nat) : pw (x % 115792089237316195423570985008687907853269984665640564039457584007913129639936) = pw x := by
  have h := wv_congr (x := x % 115792089237316195423570985008687907853269984665640564039457584007913129639936) (y := x) (Nat.mod_mod _ _)
  rw [wv_pw, wv_pw] at h
  exact Value.agg.inj h
theorem pw_get (x p : Nat) (h : p < 4) (h' : p < (pw x).size) : (pw x)[p] = .int .u64 (pN x p : Nat) := by
  have := pw_at x p h
  rw [Array.getElem?_eq_getElem h'] at this
  exact Option.some.inj this
theorem pw_set (Y c i p s : Nat) (hc : c < 2) (hp : i / 64 = p) (hs : i % 64 = s) : (pw Y).setIfInBounds p (.int .u64 ((bset (pN Y p) c s : Nat) : Int)) = pw (bset Y c i) := by
  subst hp hs
  apply Array.ext
  · simp [pw]
  · intro q h1 h2
    have hq : q < 4 := by simpa [pw] using h2
    have hs : q < (pw Y).size := by simpa using h1
    rw [pw_get _ _ hq, Array.getElem_setIfInBounds hs, pN_bset _ _ _ _ hc hq]
    by_cases e : i / 64 = q
    · rw [if_pos e, if_pos e, e]
    · rw [if_neg e, if_neg e, pw_get _ _ hq]
end Go.Proofs.YthfadinocadhaaaDoor

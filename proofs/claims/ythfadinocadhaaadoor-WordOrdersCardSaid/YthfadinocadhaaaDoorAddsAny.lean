/- bailiwicklaw01.WordAdds answers true, called with any two words in any world: sums, differences and products are the document's. -/
import Derived.Test.YthfadinocadhaaaDoorRefs
import Derived.Test.YthfadinocadhaaaDoorRings
namespace Go.Proofs.YthfadinocadhaaaDoor
open Go.RowKit

/-- The worlds of a law over two words: nothing elder has turned; they lie in the call's first two blocks. -/
def CW2 (w : World) (x y : Nat) (wx : World) : Prop :=
  Below w.heap.size w wx ∧ wx.heap[w.heap.size]? = some (.cells (pw x) 24 (0, 0)) ∧ wx.heap[w.heap.size + 1]? = some (.cells (pw y) 24 (0, 0))
theorem CW2.below {w wx w' : World} {x y : Nat} (h : CW2 w x y wx) (hb : Below wx.heap.size wx w') : CW2 w x y w' := by
  have hl := (Array.getElem?_eq_some_iff.1 h.2.2).1
  exact ⟨h.1.trans (hb.mono h.1.size), (hb.block _ (by omega)).trans h.2.1, (hb.block _ hl).trans h.2.2⟩
theorem CW2.call {w : World} {x y : Nat} {f : FuncId} {args : Array Value} {v : Value} (h : ∀ w, Calls Tryd.prog f args w fun e w' => e = .returned v ∧ Below w.heap.size w w') : ∀ wx, CW2 w x y wx → Calls Tryd.prog f args wx fun e w' => e = .returned v ∧ CW2 w x y w' :=
  fun wx hC => (h wx).mono fun _ _ h => ⟨h.1, hC.below h.2⟩

set_option maxRecDepth 100000 in
set_option maxHeartbeats 2000000 in
theorem adds_any (x y : Nat) (w : World) : Calls Tryd.prog 3 #[wv x, wv y] w fun e w' => e = .returned (.bool true) ∧ Below w.heap.size w w' := by
  rw [wv_pw, wv_pw]
  have L1 := Lib.hid (fun wx (hC : (CW2 w x y) wx) => load_pw hC.2.1)
  have L2 := Lib.hid (fun wx (hC : (CW2 w x y) wx) => load_pw hC.2.2)
  have K1 := Lib.hid (CW2.call (w := w) (x := x) (y := y) (fun w => add_any x y w))
  have K2 := Lib.hid (CW2.call (w := w) (x := x) (y := y) (args := #[wv x, wv y]) (fun w => add_ref x y w))
  have K3 := Lib.hid (CW2.call (w := w) (x := x) (y := y) (fun w => sub_any x y w))
  have K4 := Lib.hid (CW2.call (w := w) (x := x) (y := y) (args := #[wv x, wv y]) (fun w => sub_ref x y w))
  have K5 := Lib.hid (CW2.call (w := w) (x := x) (y := y) (fun w => mul_any x y w))
  have K6 := Lib.hid (CW2.call (w := w) (x := x) (y := y) (args := #[wv x, wv y]) (fun w => mul_ref x y w))
  have K7 := Lib.hid (CW2.call (w := w) (x := x) (y := y) lives_any)
  go_enter Tryd.func3, Tryd.ntmps3
  go_wp2_with fail
  refine wp_region_quiet (C := (CW2 w x y)) (by kernel_rfl) (by kernel_rfl) ⟨Below.drew (by go_grown), heap_alloc2_old _ _ _, heap_alloc2_new _ _ _⟩ ?_
  with_reducible refine q_load 24 (.tmp 2) (.pointer (some ⟨w.heap.size, 0, none⟩)) (wv x) rfl (by kernel_rfl) (by kernel_rfl) L1.out ?_
  with_reducible refine q_load 24 (.tmp 3) (.pointer (some ⟨w.heap.size + 1, 0, none⟩)) (wv y) rfl (by kernel_rfl) (by kernel_rfl) L2.out ?_
  with_reducible refine q_call 13 #[wv x, wv y] (wv (x + y)) (by kernel_rfl) (fun _ => by kernel_rfl) K1.out ?_
  with_reducible refine q_load 24 (.tmp 2) (.pointer (some ⟨w.heap.size, 0, none⟩)) (wv x) rfl (by kernel_rfl) (by kernel_rfl) L1.out ?_
  with_reducible refine q_load 24 (.tmp 3) (.pointer (some ⟨w.heap.size + 1, 0, none⟩)) (wv y) rfl (by kernel_rfl) (by kernel_rfl) L2.out ?_
  with_reducible refine q_call 14 #[wv x, wv y] (wv (x + y)) (by kernel_rfl) (fun _ => by kernel_rfl) K2.out ?_
  with_reducible refine q_bin .eql 24 _ _ 24 (wv (x + y)) (wv (x + y)) (.bool true) rfl (by kernel_rfl) (by kernel_rfl) (by kernel_rfl) (eqg_any _ _ _) (eqb_any _) ?_
  with_reducible refine q_val (.bool true) (by kernel_rfl) (fun _ _ => by kernel_rfl) ?_
  with_reducible refine q_load 24 (.tmp 2) (.pointer (some ⟨w.heap.size, 0, none⟩)) (wv x) rfl (by kernel_rfl) (by kernel_rfl) L1.out ?_
  with_reducible refine q_load 24 (.tmp 3) (.pointer (some ⟨w.heap.size + 1, 0, none⟩)) (wv y) rfl (by kernel_rfl) (by kernel_rfl) L2.out ?_
  with_reducible refine q_call 15 #[wv x, wv y] (wv (x + (115792089237316195423570985008687907853269984665640564039457584007913129639936 - y % 115792089237316195423570985008687907853269984665640564039457584007913129639936))) (by kernel_rfl) (fun _ => by kernel_rfl) K3.out ?_
  with_reducible refine q_load 24 (.tmp 2) (.pointer (some ⟨w.heap.size, 0, none⟩)) (wv x) rfl (by kernel_rfl) (by kernel_rfl) L1.out ?_
  with_reducible refine q_load 24 (.tmp 3) (.pointer (some ⟨w.heap.size + 1, 0, none⟩)) (wv y) rfl (by kernel_rfl) (by kernel_rfl) L2.out ?_
  with_reducible refine q_call 16 #[wv x, wv y] (wv (x + (115792089237316195423570985008687907853269984665640564039457584007913129639936 - y % 115792089237316195423570985008687907853269984665640564039457584007913129639936))) (by kernel_rfl) (fun _ => by kernel_rfl) K4.out ?_
  with_reducible refine q_bin .eql 24 _ _ 24 (wv (x + (115792089237316195423570985008687907853269984665640564039457584007913129639936 - y % 115792089237316195423570985008687907853269984665640564039457584007913129639936))) (wv (x + (115792089237316195423570985008687907853269984665640564039457584007913129639936 - y % 115792089237316195423570985008687907853269984665640564039457584007913129639936))) (.bool true) rfl (by kernel_rfl) (by kernel_rfl) (by kernel_rfl) (eqg_any _ _ _) (eqb_any _) ?_
  with_reducible refine q_val (.bool true) (by kernel_rfl) (fun _ _ => by kernel_rfl) ?_
  with_reducible refine q_val (.bool true) (by kernel_rfl) (fun _ _ => by kernel_rfl) ?_
  with_reducible refine q_load 24 (.tmp 2) (.pointer (some ⟨w.heap.size, 0, none⟩)) (wv x) rfl (by kernel_rfl) (by kernel_rfl) L1.out ?_
  with_reducible refine q_load 24 (.tmp 3) (.pointer (some ⟨w.heap.size + 1, 0, none⟩)) (wv y) rfl (by kernel_rfl) (by kernel_rfl) L2.out ?_
  with_reducible refine q_call 17 #[wv x, wv y] (wv (x * y)) (by kernel_rfl) (fun _ => by kernel_rfl) K5.out ?_
  with_reducible refine q_load 24 (.tmp 2) (.pointer (some ⟨w.heap.size, 0, none⟩)) (wv x) rfl (by kernel_rfl) (by kernel_rfl) L1.out ?_
  with_reducible refine q_load 24 (.tmp 3) (.pointer (some ⟨w.heap.size + 1, 0, none⟩)) (wv y) rfl (by kernel_rfl) (by kernel_rfl) L2.out ?_
  with_reducible refine q_call 18 #[wv x, wv y] (wv (x * y)) (by kernel_rfl) (fun _ => by kernel_rfl) K6.out ?_
  with_reducible refine q_bin .eql 24 _ _ 24 (wv (x * y)) (wv (x * y)) (.bool true) rfl (by kernel_rfl) (by kernel_rfl) (by kernel_rfl) (eqg_any _ _ _) (eqb_any _) ?_
  with_reducible refine q_val (.bool true) (by kernel_rfl) (fun _ _ => by kernel_rfl) ?_
  with_reducible refine q_val (.bool true) (by kernel_rfl) (fun _ _ => by kernel_rfl) ?_
  with_reducible refine q_call 19 #[] (.bool true) (by kernel_rfl) (fun _ => by kernel_rfl) K7.out ?_
  with_reducible refine q_val (.bool true) (by kernel_rfl) (fun _ _ => by kernel_rfl) ?_
  with_reducible refine q_val (.bool true) (by kernel_rfl) (fun _ _ => by kernel_rfl) ?_
  with_reducible refine wpQuiet_nil ?_
  intro wx hC
  have hB := hC.1
  clear hC
  generalize hA : Act.put _ _ _ = A
  have h6 : A.tmps.getD 4 undef = Value.bool true := by subst hA; kernel_rfl
  have hd : A.defers = [] := by subst hA; kernel_rfl
  clear hA
  go_wp2
  (try simp only [Exit.inBlock, Exit.then])
  refine bodyPost_ret (v := .bool true) (by rw [results_tmp rfl _ _ _, h6]) hd ⟨rfl, hB⟩
end Go.Proofs.YthfadinocadhaaaDoor

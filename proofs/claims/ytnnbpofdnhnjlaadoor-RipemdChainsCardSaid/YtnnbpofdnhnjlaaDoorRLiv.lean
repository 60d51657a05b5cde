/- RIPEMD-160: the hash of nothing, and what lives comes to. -/
import Derived.Test.YtnnbpofdnhnjlaaDoorRSum
namespace Go.Proofs.YtnnbpofdnhnjlaaDoor
open Go.RowKit
theorem ar_lit5 (r : Nat → Int) : ar .u32 5 r = #[.int .u32 (r 0), .int .u32 (r 1), .int .u32 (r 2), .int .u32 (r 3), .int .u32 (r 4)] := by kernel_rfl
theorem eqg5 (r : Nat → Int) (o1 o2 : Operand) (w : World) : (eqGuard BinOp.eql 47 o1 o2 (.agg (ar .u32 5 r)) (.agg (ar .u32 5 r))).run Tryd.prog w = .ok () w := by kernel_rfl
set_option maxRecDepth 100000 in
set_option maxHeartbeats 2000000 in
theorem eqi5 (r : Nat → Int) (w : World) : (Op.equalIn 10000 47 (.agg (ar .u32 5 r)) (.agg (ar .u32 5 r))).run Tryd.prog w = .ok true w := by
  rw [ar_lit5]
  have u3 := Tryd.underlying46
  have a3' := Tryd.isAgg46
  have z3 := Tryd.sizeOf46
  rw [show (10000 : Nat) = 9999 + 1 from rfl, Op.equalIn]
  simp only [Sem.run_bind, run_underlying Tryd.underlying47, Result.andThen_ok]
  simp only [Std.Legacy.Range.forIn_eq_forIn_range', Std.Legacy.Range.size, Nat.sub_zero, Nat.add_sub_cancel, Nat.div_one, List.range'_succ, List.range'_zero, List.forIn_cons, List.forIn_nil]
  go_simp
theorem eqb5 (r : Nat → Int) (w : World) : (binOp BinOp.eql 47 (.agg (ar .u32 5 r)) (.agg (ar .u32 5 r))).run Tryd.prog w = .ok (.bool true) w := by
  have h := eqi5 r
  go_simp
theorem ar_lit20 (r : Nat → Int) : ar .u8 20 r = #[.int .u8 (r 0), .int .u8 (r 1), .int .u8 (r 2), .int .u8 (r 3), .int .u8 (r 4), .int .u8 (r 5), .int .u8 (r 6), .int .u8 (r 7), .int .u8 (r 8), .int .u8 (r 9), .int .u8 (r 10), .int .u8 (r 11), .int .u8 (r 12), .int .u8 (r 13), .int .u8 (r 14), .int .u8 (r 15), .int .u8 (r 16), .int .u8 (r 17), .int .u8 (r 18), .int .u8 (r 19)] := by kernel_rfl
theorem eqg20 (r : Nat → Int) (o1 o2 : Operand) (w : World) : (eqGuard BinOp.eql 43 o1 o2 (.agg (ar .u8 20 r)) (.agg (ar .u8 20 r))).run Tryd.prog w = .ok () w := by kernel_rfl
set_option maxRecDepth 100000 in
set_option maxHeartbeats 2000000 in
theorem eqi20 (r : Nat → Int) (w : World) : (Op.equalIn 10000 43 (.agg (ar .u8 20 r)) (.agg (ar .u8 20 r))).run Tryd.prog w = .ok true w := by
  rw [ar_lit20]
  have u3 := Tryd.underlying5
  have a3' := Tryd.isAgg5
  have z3 := Tryd.sizeOf5
  rw [show (10000 : Nat) = 9999 + 1 from rfl, Op.equalIn]
  simp only [Sem.run_bind, run_underlying Tryd.underlying43, Result.andThen_ok]
  simp only [Std.Legacy.Range.forIn_eq_forIn_range', Std.Legacy.Range.size, Nat.sub_zero, Nat.add_sub_cancel, Nat.div_one, List.range'_succ, List.range'_zero, List.forIn_cons, List.forIn_nil]
  go_simp
theorem eqb20 (r : Nat → Int) (w : World) : (binOp BinOp.eql 43 (.agg (ar .u8 20 r)) (.agg (ar .u8 20 r))).run Tryd.prog w = .ok (.bool true) w := by
  have h := eqi20 r
  go_simp
set_option maxRecDepth 100000 in
theorem none_0 : rsum (fun _ => 0) 0 0 = 156 := by decide +kernel
set_option maxRecDepth 100000 in
theorem none_1 : rsum (fun _ => 0) 0 1 = 17 := by decide +kernel
set_option maxRecDepth 100000 in
theorem none_19 : rsum (fun _ => 0) 0 19 = 49 := by decide +kernel
theorem arg_nil (w : World) : ArgB w (.slice none 0 0) 0 (fun _ => 0) := ⟨none, 0, rfl, Nat.le_refl _, fun _ => rfl, .inl rfl⟩
set_option maxRecDepth 100000 in
set_option maxHeartbeats 1000000 in
theorem lives_any (w : World) (hT : Tabs w) : Calls Tryd.prog 33 #[] w fun e w' => e = .returned (.bool true) ∧ Below w.heap.size w w' := by
  have SU := Lib.hid (sum_any (n := 0) (f := fun _ => 0) (by omega) (fun _ => by omega) hT (arg_nil w))
  have HN := Lib.hid (And.intro none_0 (And.intro none_1 none_19))
  obtain ⟨r, hr⟩ : ∃ r, rsum (fun _ => 0) 0 = r := ⟨_, rfl⟩
  rw [hr] at SU HN
  clear hr hT
  go_enter Tryd.func33, Tryd.ntmps33
  go_wp2_with fail
  refine SU.out.mono ?_
  rintro e w2 ⟨rfl, hb⟩
  have HB := Lib.hid hb
  have hrow : ((w2.alloc (.cells #[.int .u8 0, .int .u8 0, .int .u8 0, .int .u8 0, .int .u8 0, .int .u8 0, .int .u8 0, .int .u8 0, .int .u8 0, .int .u8 0, .int .u8 0, .int .u8 0, .int .u8 0, .int .u8 0, .int .u8 0, .int .u8 0, .int .u8 0, .int .u8 0, .int .u8 0, .int .u8 0] 43)).setRow w2.heap.size (ar .u8 20 r)).heap[w2.heap.size]? = some (.cells (ar .u8 20 r) 43 (0, 0)) := setRow_heap _ _ _ _ _ _ (heap_alloc_new _ _)
  have c0 := (cell_of_row _ _ 0 _ _ _ hrow).trans (ar_at _ _ _ _ (by omega))
  have c1 := (cell_of_row _ _ 1 _ _ _ hrow).trans (ar_at _ _ _ _ (by omega))
  have c2 := (cell_of_row _ _ 19 _ _ _ hrow).trans (ar_at _ _ _ _ (by omega))
  rw [HN.out.1] at c0
  rw [HN.out.2.1] at c1
  rw [HN.out.2.2] at c2
  clear hrow hb
  go_wp2_with (refine wpList_store_row rfl 43 _ _ rfl w2.heap.size (ar .u8 20 r) rfl rfl 43 _ (heap_alloc_new _ _) (by rw [ar_size]; exact info20) (by rw [ar_size]; rfl) (ar_one _ _ _) ?_)
  go_ret
  exact ⟨rfl, below_setRow (HB.out.alloc HB.out.size _) HB.out.size _⟩
end Go.Proofs.YtnnbpofdnhnjlaaDoor

/- BLAKE2b: what lives comes to. -/
import Derived.Test.YtoeomlmnejhgpaaDoorBIn
namespace Go.Proofs.YtoeomlmnejhgpaaDoor
open Go.RowKit
def lvH : Nat → Int := fun _ => 0
def lvT : Nat → Int := fun j => if j = 0 then 3 else 0
def lvR : Nat → Int := bfi lvH (vrn (bgn lvH lvT true) lvH 12)
set_option maxRecDepth 100000 in
theorem lvR_0 : lvR 0 = 15882507534443986831 := by decide +kernel
theorem neq_0 (r : Nat → Int) (hr : r 0 = 15882507534443986831) (w : World) : (binOp BinOp.neq 54 (.agg (ar .u64 8 r)) (.agg #[.int .u64 0, .int .u64 0, .int .u64 0, .int .u64 0, .int .u64 0, .int .u64 0, .int .u64 0, .int .u64 0])).run Tryd.prog w = .ok (.bool true) w := by
  rw [ar_lit8, hr]
  have u3 := Tryd.underlying34 
  have a3' := Tryd.isAgg34 
  have z3 := Tryd.sizeOf34 
  have h : (Op.equalIn 10000 54 (.agg #[.int .u64 15882507534443986831, .int .u64 (r 1), .int .u64 (r 2), .int .u64 (r 3), .int .u64 (r 4), .int .u64 (r 5), .int .u64 (r 6), .int .u64 (r 7)]) (.agg #[.int .u64 0, .int .u64 0, .int .u64 0, .int .u64 0, .int .u64 0, .int .u64 0, .int .u64 0, .int .u64 0])).run Tryd.prog w = .ok false w := by
    rw [show (10000 : Nat) = 9999 + 1 from rfl, Op.equalIn]
    simp only [Sem.run_bind, run_underlying Tryd.underlying54 , Result.andThen_ok]
    simp only [Std.Legacy.Range.forIn_eq_forIn_range', Std.Legacy.Range.size, Nat.sub_zero, Nat.add_sub_cancel, Nat.div_one, List.range'_succ, List.range'_zero, List.forIn_cons, List.forIn_nil]
    go_simp
  go_simp
/-- The worlds of lives. -/
structure CL6 (w : World) (g : Nat) (r : Nat → Int) (wx : World) : Prop where
  i : CI w w.heap.size 12 lvH lvH lvT true wx
  row : wx.heap[g]? = some (.cells (ar .u64 8 r) 54 (0, 0))
theorem CL6.below {w wx w' : World} {g : Nat} {r : Nat → Int} (c : CL6 w g r wx) (hb : Below wx.heap.size wx w') : CL6 w g r w' :=
  ⟨c.i.below hb, (hb.block _ (Array.getElem?_eq_some_iff.1 c.row).1).trans c.row⟩
theorem load_8r {g : Nat} {x : Nat → Int} {w : World} (hg : w.heap[g]? = some (.cells (ar .u64 8 x) 54 (0, 0))) : (Instr.loadAt 54 (.pointer (some ⟨g, 0, none⟩))).run Tryd.prog w = .ok (.agg (ar .u64 8 x)) w := by
  simp only [Instr.loadAt, Instr.sureAddr, Sem.run_bind, Sem.run_pure, Result.andThen_ok, run_loadVar_row w g 54 54 (ar .u64 8 x) (0, 0) _ hg Tryd.underlying54 rfl (by rw [ar_size]; exact info8u)]
theorem wpList_ld {P : Program} {ops : Array Oper} {rest : List Oper} {o : Oper} {a : Act} {w : World} {Q : Exit → Act → World → Prop} (hgd : o.guard = none) (T : TypeId) (x : Operand) (ho : o.op = .load T x) (p v : Value) (hp : a.eval x = p)
    (hr : (Instr.loadAt T p).run P w = .ok v w) (h : wpList P ops Q rest (a.put o.dst v) w) : wpList P ops Q (o :: rest) a w :=
  wpList_val hgd v (by unfold execOp; rw [ho]; simp only [hp, Sem.run_bind, hr, Result.andThen_ok, Sem.run_pure]) h
theorem infoIn : (Tryd.prog.info? 58).map (·.size) = some 28 := by kernel_rfl
theorem inr_one (r : Nat) (h m t : Nat → Int) (last : Bool) : (inr r h m t last).all (·.oneCell') = true := by kernel_rfl
set_option maxRecDepth 100000 in
set_option maxHeartbeats 2000000 in
theorem blives_any (w : World) (hP : Plc w) : Calls Tryd.prog 38 #[] w fun e w' => e = .returned (.bool true) ∧ Below w.heap.size w w' := by
  have HP := Lib.hid hP; clear hP
  have H1 := Lib.hid (show CI w w.heap.size 12 lvH lvH lvT true ((w.alloc (.cells #[.int .u32 0, .int .u64 0, .int .u64 0, .int .u64 0, .int .u64 0, .int .u64 0, .int .u64 0, .int .u64 0, .int .u64 0, .int .u64 0, .int .u64 0, .int .u64 0, .int .u64 0, .int .u64 0, .int .u64 0, .int .u64 0, .int .u64 0, .int .u64 0, .int .u64 0, .int .u64 0, .int .u64 0, .int .u64 0, .int .u64 0, .int .u64 0, .int .u64 0, .int .u64 0, .int .u64 0, .bool false] 58)).setRow w.heap.size (inr 12 lvH lvH lvT true)) from ⟨below_setRow (by go_grown) (Nat.le_refl _) _, setRow_heap _ _ _ _ _ _ (heap_alloc_new _ _)⟩)
  go_enter Tryd.func38, Tryd.ntmps38
  go_wp2_with (first | (refine wpList_store_row rfl 58 _ _ rfl w.heap.size (inr 12 lvH lvH lvT true) rfl (by kernel_rfl) 58 _ (heap_alloc_new _ _) (by rw [inr_size]; exact infoIn) (by rw [inr_size]; rfl) (inr_one _ _ _ _ _) ?_) | (refine wpList_ld rfl 46 _ rfl (.pointer (some ⟨w.heap.size, 0, none⟩)) (.int .u32 (12 : Nat)) rfl (in_r H1.out.row) ?_) | (refine wpList_ld rfl 54 _ rfl (.pointer (some ⟨w.heap.size, 1, none⟩)) (.agg (ar .u64 8 lvH)) rfl (in_h H1.out.row) ?_) | (refine wpList_ld rfl 55 _ rfl (.pointer (some ⟨w.heap.size, 9, none⟩)) (.agg (ar .u64 16 lvH)) rfl (in_m H1.out.row) ?_) | (refine wpList_ld rfl 56 _ rfl (.pointer (some ⟨w.heap.size, 25, none⟩)) (.agg (ar .u64 2 lvT)) rfl (in_t H1.out.row) ?_) | (refine wpList_ld rfl 4 _ rfl (.pointer (some ⟨w.heap.size, 27, none⟩)) (.bool true) rfl (in_l H1.out.row) ?_))
  refine (f_in 12 (by omega) HP.out _ H1.out lvH).mono ?_
  rintro e w2 ⟨rfl, hc⟩
  rw [show bfi lvH (vrn (bgn lvH lvT true) lvH (min 12 65536)) = lvR from rfl]
  have HR := Lib.hid lvR_0
  have HBR := Lib.hid (show ∀ wx, CL6 w w2.heap.size lvR wx → Calls Tryd.prog 37 #[.int .u32 (12 : Nat), .agg (ar .u64 8 lvH), .agg (ar .u64 16 lvH), .agg (ar .u64 2 lvT), .bool true] wx (fun e w' => e = .returned (.agg (ar .u64 8 lvR)) ∧ CL6 w w2.heap.size lvR w') from fun wx c => (brf_any 12 lvH lvH lvT true (by omega) wx).mono fun e w' hh => ⟨hh.1, c.below hh.2⟩)
  obtain ⟨ro, hro⟩ : ∃ ro, lvR = ro := ⟨_, rfl⟩
  rw [hro] at HR HBR ⊢
  clear hro
  have H3 := Lib.hid (show CL6 w w2.heap.size ro ((w2.alloc (.cells #[.int .u64 0, .int .u64 0, .int .u64 0, .int .u64 0, .int .u64 0, .int .u64 0, .int .u64 0, .int .u64 0] 54)).setRow w2.heap.size (ar .u64 8 ro)) from ⟨hc.below (below_setRow ((Below.refl _ _).alloc (Nat.le_refl _) _) (Nat.le_refl _) _), setRow_heap _ _ _ _ _ _ (heap_alloc_new _ _)⟩)
  clear hc H1
  go_wp2_with (refine wpList_store_row rfl 54 _ _ rfl w2.heap.size (ar .u64 8 ro) rfl rfl 54 _ (heap_alloc_new _ _) (by rw [ar_size]; exact info8u) (by rw [ar_size]; rfl) (ar_one _ _ _) ?_)
  refine wp_region_quiet (C := CL6 w w2.heap.size ro) (by kernel_rfl) (by kernel_rfl) (H3.out.below (Below.drew (Below.refl _ _))) ?_
  simp only
  with_reducible refine q_load 54 (.tmp 2) (.pointer (some ⟨w2.heap.size, 0, none⟩)) (.agg (ar .u64 8 ro)) rfl (by kernel_rfl) (by kernel_rfl) (fun _ c => load_8r c.row) ?_
  with_reducible refine q_val (.pointer (some ⟨w.heap.size, 0, none⟩)) (by kernel_rfl) (fun _ _ => by kernel_rfl) ?_
  with_reducible refine q_load 46 (.tmp 17) (.pointer (some ⟨w.heap.size, 0, none⟩)) (.int .u32 (12 : Nat)) rfl (by kernel_rfl) (by kernel_rfl) (fun _ c => in_r c.i.row) ?_
  with_reducible refine q_val (.pointer (some ⟨w.heap.size, 1, none⟩)) (by kernel_rfl) (fun _ _ => by kernel_rfl) ?_
  with_reducible refine q_load 54 (.tmp 19) (.pointer (some ⟨w.heap.size, 1, none⟩)) (.agg (ar .u64 8 lvH)) rfl (by kernel_rfl) (by kernel_rfl) (fun _ c => in_h c.i.row) ?_
  with_reducible refine q_val (.pointer (some ⟨w.heap.size, 9, none⟩)) (by kernel_rfl) (fun _ _ => by kernel_rfl) ?_
  with_reducible refine q_load 55 (.tmp 21) (.pointer (some ⟨w.heap.size, 9, none⟩)) (.agg (ar .u64 16 lvH)) rfl (by kernel_rfl) (by kernel_rfl) (fun _ c => in_m c.i.row) ?_
  with_reducible refine q_val (.pointer (some ⟨w.heap.size, 25, none⟩)) (by kernel_rfl) (fun _ _ => by kernel_rfl) ?_
  with_reducible refine q_load 56 (.tmp 23) (.pointer (some ⟨w.heap.size, 25, none⟩)) (.agg (ar .u64 2 lvT)) rfl (by kernel_rfl) (by kernel_rfl) (fun _ c => in_t c.i.row) ?_
  with_reducible refine q_val (.pointer (some ⟨w.heap.size, 27, none⟩)) (by kernel_rfl) (fun _ _ => by kernel_rfl) ?_
  with_reducible refine q_load 4 (.tmp 25) (.pointer (some ⟨w.heap.size, 27, none⟩)) (.bool true) rfl (by kernel_rfl) (by kernel_rfl) (fun _ c => in_l c.i.row) ?_
  with_reducible refine q_call 37 #[.int .u32 (12 : Nat), .agg (ar .u64 8 lvH), .agg (ar .u64 16 lvH), .agg (ar .u64 2 lvT), .bool true] (.agg (ar .u64 8 ro)) (by kernel_rfl) (fun _ => by kernel_rfl) (HBR.out) ?_
  with_reducible refine q_bin .eql 54 _ _ 54 (.agg (ar .u64 8 ro)) (.agg (ar .u64 8 ro)) (.bool true) rfl (by kernel_rfl) (by kernel_rfl) (by kernel_rfl) (fun w => eqg8 ro _ _ w) (fun w => eqb8 ro w) ?_
  with_reducible refine q_val (.bool true) (by kernel_rfl) (fun _ _ => by kernel_rfl) ?_
  with_reducible refine q_load 54 (.tmp 2) (.pointer (some ⟨w2.heap.size, 0, none⟩)) (.agg (ar .u64 8 ro)) rfl (by kernel_rfl) (by kernel_rfl) (fun _ c => load_8r c.row) ?_
  with_reducible refine q_val (.agg #[.int .u64 0, .int .u64 0, .int .u64 0, .int .u64 0, .int .u64 0, .int .u64 0, .int .u64 0, .int .u64 0]) (by kernel_rfl) (fun _ _ => by kernel_rfl) ?_
  with_reducible refine q_bin .neq 54 _ _ 54 (.agg (ar .u64 8 ro)) (.agg #[.int .u64 0, .int .u64 0, .int .u64 0, .int .u64 0, .int .u64 0, .int .u64 0, .int .u64 0, .int .u64 0]) (.bool true) rfl (by kernel_rfl) (by kernel_rfl) (by kernel_rfl) (fun w => by kernel_rfl) (fun w => neq_0 ro HR.out w) ?_
  with_reducible refine q_val (.bool true) (by kernel_rfl) (fun _ _ => by kernel_rfl) ?_
  with_reducible refine q_val (.bool true) (by kernel_rfl) (fun _ _ => by kernel_rfl) ?_
  with_reducible refine wpQuiet_nil ?_
  intro wx hC
  have HC := Lib.hid hC
  clear hC
  simp only [Act.put, List.setIfInBounds_toArray, List.set_cons_succ, List.set_cons_zero]
  go_wp2_with fail
  go_ret
  exact ⟨rfl, HC.out.i.old⟩
end Go.Proofs.YtoeomlmnejhgpaaDoor

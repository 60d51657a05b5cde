/- BLAKE2b: what blake.Call comes to. -/
import Derived.Test.YtoeomlmnejhgpaaDoorBJoin
import Derived.Test.YtoeomlmnejhgpaaDoorTail
namespace Go.Proofs.YtoeomlmnejhgpaaDoor
open Go.RowKit
theorem bits_u64_range (a b : Int) : 0 ≤ bits .xor .u64 a b ∧ bits .xor .u64 a b < 18446744073709551616 := by
  rw [bits_xor64, IntKind.wrap_u64]
  omega
theorem bfi_range (h v : Nat → Int) (i : Nat) : 0 ≤ bfi h v i ∧ bfi h v i < 18446744073709551616 := bits_u64_range _ _
/-- What Call answers: F of what the bytes tell. -/
def callV (f : Nat → Nat) : Nat → Int := bfi (nums fun j => f (4 + j)) (vrn (bgn (nums fun j => f (4 + j)) (nums fun j => f (196 + j)) (decide (f 212 = 1))) (nums fun j => f (68 + j)) (min (r4 f 4) 65536))
theorem callV_range (f : Nat → Nat) (i : Nat) : 0 ≤ callV f i ∧ callV f i < 18446744073709551616 := bfi_range _ _ _
/-- The worlds of Call. -/
structure CQ (w : World) (g o : Nat) (f : Nat → Nat) (h m t : Nat → Int) (wx : World) : Prop where
  old : Below w.heap.size w wx
  r0 : wx.heap[w.heap.size]? = some (.cells (ar .u64 8 h) 54 (0, 0))
  r1 : wx.heap[w.heap.size + 1]? = some (.cells (ar .u64 16 m) 55 (0, 0))
  r2 : wx.heap[w.heap.size + 1 + 1]? = some (.cells (ar .u64 2 t) 56 (0, 0))
  gl : g < w.heap.size
  rd : ∀ j, j < 213 → wx.cell? ⟨g, o + j, none⟩ = some (.int .u8 (f j : Nat))
theorem CQ.high {w wx : World} {g o : Nat} {f : Nat → Nat} {h m t : Nat → Int} (c : CQ w g o f h m t wx) : w.heap.size + 1 + 1 + 1 ≤ wx.heap.size := (Array.getElem?_eq_some_iff.1 c.r2).1
theorem CQ.below {w wx w' : World} {g o : Nat} {f : Nat → Nat} {h m t : Nat → Int} (c : CQ w g o f h m t wx) (hb : Below wx.heap.size wx w') : CQ w g o f h m t w' := by
  have l := c.high
  have l2 := c.gl
  exact ⟨c.old.trans (hb.mono (by omega)), (hb.block _ (by omega)).trans c.r0, (hb.block _ (by omega)).trans c.r1, (hb.block _ (by omega)).trans c.r2, c.gl, fun j hj => (hb.cell (p := ⟨g, o + j, none⟩) (by show g < _; omega)).trans (c.rd j hj)⟩
theorem CQ.drew {w wx : World} {g o : Nat} {f : Nat → Nat} {h m t : Nat → Int} (c : CQ w g o f h m t wx) : CQ w g o f h m t wx.drew := c.below (Below.drew (Below.refl _ _))
theorem CQ.at_ {w wx w' : World} {g o : Nat} {f : Nat → Nat} {h m t h' m' t' : Nat → Int} {B : Nat} (c : CQ w g o f h m t wx) (hb : Bt B wx w') (hB : w.heap.size ≤ B) (h0 : w'.heap[w.heap.size]? = some (.cells (ar .u64 8 h') 54 (0, 0))) (h1 : w'.heap[w.heap.size + 1]? = some (.cells (ar .u64 16 m') 55 (0, 0))) (h2 : w'.heap[w.heap.size + 1 + 1]? = some (.cells (ar .u64 2 t') 56 (0, 0))) : CQ w g o f h' m' t' w' := by
  have l := c.high
  have l2 := c.gl
  exact ⟨hb.below c.old hB (by omega), h0, h1, h2, c.gl, fun j hj => (World.cell?_of_block (w := wx) (a := ⟨g, o + j, none⟩) (hb.block g (by omega) (by omega))).trans (c.rd j hj)⟩
theorem CQ.t0 {w wx w' : World} {g o : Nat} {f : Nat → Nat} {h m t h' : Nat → Int} (c : CQ w g o f h m t wx) (hb : Bt w.heap.size wx w') (hr : w'.heap[w.heap.size]? = some (.cells (ar .u64 8 h') 54 (0, 0))) : CQ w g o f h' m t w' := by
  have l := c.high
  exact c.at_ hb (by omega) hr ((hb.block _ (by omega) (by omega)).trans c.r1) ((hb.block _ (by omega) (by omega)).trans c.r2)
theorem CQ.t1 {w wx w' : World} {g o : Nat} {f : Nat → Nat} {h m t m' : Nat → Int} (c : CQ w g o f h m t wx) (hb : Bt (w.heap.size + 1) wx w') (hr : w'.heap[w.heap.size + 1]? = some (.cells (ar .u64 16 m') 55 (0, 0))) : CQ w g o f h m' t w' := by
  have l := c.high
  exact c.at_ hb (by omega) ((hb.block _ (by omega) (by omega)).trans c.r0) hr ((hb.block _ (by omega) (by omega)).trans c.r2)
theorem CQ.t2 {w wx w' : World} {g o : Nat} {f : Nat → Nat} {h m t t' : Nat → Int} (c : CQ w g o f h m t wx) (hb : Bt (w.heap.size + 1 + 1) wx w') (hr : w'.heap[w.heap.size + 1 + 1]? = some (.cells (ar .u64 2 t') 56 (0, 0))) : CQ w g o f h m t' w' := by
  have l := c.high
  exact c.at_ hb (by omega) ((hb.block _ (by omega) (by omega)).trans c.r0) ((hb.block _ (by omega) (by omega)).trans c.r1) hr
theorem sl_a8 (V : Nat) (w : World) : (Instr.sliceAt 54 (.pointer (some ⟨V, 0, none⟩)) none none none).run Tryd.prog w = .ok (.slice (some ⟨V, 0, none⟩) 8 8) w := by kernel_rfl
theorem sl_a16 (V : Nat) (w : World) : (Instr.sliceAt 55 (.pointer (some ⟨V, 0, none⟩)) none none none).run Tryd.prog w = .ok (.slice (some ⟨V, 0, none⟩) 16 16) w := by kernel_rfl
theorem sl_a2 (V : Nat) (w : World) : (Instr.sliceAt 56 (.pointer (some ⟨V, 0, none⟩)) none none none).run Tryd.prog w = .ok (.slice (some ⟨V, 0, none⟩) 2 2) w := by kernel_rfl
theorem load_2u {g : Nat} {x : Nat → Int} {w : World} (hg : w.heap[g]? = some (.cells (ar .u64 2 x) 56 (0, 0))) : (Instr.loadAt 56 (.pointer (some ⟨g, 0, none⟩))).run Tryd.prog w = .ok (.agg (ar .u64 2 x)) w := by
  simp only [Instr.loadAt, Instr.sureAddr, Sem.run_bind, Sem.run_pure, Result.andThen_ok, run_loadVar_row w g 56 56 (ar .u64 2 x) (0, 0) _ hg Tryd.underlying56 rfl (by rw [ar_size]; exact info2u)]
theorem load_u8 (g j : Nat) (y : Nat) (w : World) (h : w.cell? ⟨g, j, none⟩ = some (.int .u8 (y : Nat))) : (Instr.loadAt 5 (.pointer (some ⟨g, j, none⟩))).run Tryd.prog w = .ok (.int .u8 (y : Nat)) w := by
  go_simp
theorem ix0 (g o L cap : Nat) (h : 0 < L) (w : World) : (Instr.indexAt 22 (.slice (some ⟨g, o, none⟩) L cap) (.int .i64 0)).run Tryd.prog w = .ok (.pointer (some ⟨g, o, none⟩)) w := by
  have h1 : (0 : Int) < L := by omega
  go_simp
theorem eql_u8 (x : Nat) (w : World) : (binOp BinOp.eql 5 (.int .u8 (x : Nat)) (.int .u8 1)).run Tryd.prog w = .ok (.bool (decide (x = 1))) w := by
  have e : ((x : Int) == 1) = decide (x = 1) := by
    by_cases h : x = 1
    · subst h; rfl
    · have : ¬ (x : Int) = 1 := by omega
      simp [h, this]
  go_simp
set_option maxRecDepth 100000 in
set_option maxHeartbeats 2000000 in
-- WHAT Call COMES TO, of another length, or with another last byte.
theorem call_len {n : Nat} {f : Nat → Nat} {v : Value} {w : World} (hn : n ≠ 213) (hP : ArgB w v n f) : Calls Tryd.prog 39 #[v] w fun e w' => e = .returned (.tuple #[.slice none 0 0, .int .i64 4]) ∧ Below w.heap.size w w' := by
  obtain ⟨a, cap, rfl, -, -, -⟩ := hP
  have hn' : ((n : Int) != 213) = true := by rw [bne_iff_ne]; omega
  have hn2 : ¬ (n : Int) = 213 := by omega
  go_enter Tryd.func39, Tryd.ntmps39
  go_wp2_with fail
  go_ret2
  exact ⟨rfl, Below.refl _ _⟩
set_option maxRecDepth 100000 in
set_option maxHeartbeats 2000000 in
theorem call_last {f : Nat → Nat} {g o cap : Nat} {w : World} (hr : ∀ j, j < 213 → w.cell? ⟨g, o + j, none⟩ = some (.int .u8 (f j : Nat))) (h1 : 1 < f 212) : Calls Tryd.prog 39 #[.slice (some ⟨g, o, none⟩) 213 cap] w fun e w' => e = .returned (.tuple #[.slice none 0 0, .int .i64 4]) ∧ Below w.heap.size w w' := by
  have c := hr 212 (by omega)
  obtain ⟨x, hx⟩ : ∃ x, f 212 = x := ⟨_, rfl⟩
  rw [hx] at c h1
  have h1' : (1 : Int) < x := by omega
  clear hr hx h1
  go_enter Tryd.func39, Tryd.ntmps39
  go_wp2_with fail
  go_ret2
  exact ⟨rfl, Below.refl _ _⟩
set_option maxRecDepth 100000 in
set_option maxHeartbeats 4000000 in
-- WHAT Call COMES TO.
theorem call_any {f : Nat → Nat} {g o cap : Nat} {w : World} (hf : ∀ j, f j < 256) (hc : 213 ≤ cap) (hgl : g < w.heap.size) (hr : ∀ j, j < 213 → w.cell? ⟨g, o + j, none⟩ = some (.int .u8 (f j : Nat))) (h1 : f 212 ≤ 1) (hP : Plc w) : Calls Tryd.prog 39 #[.slice (some ⟨g, o, none⟩) 213 cap] w fun e w' => ∃ v, e = .returned (.tuple #[v, .int .i64 0]) ∧ ArgB w' v 64 (jb (callV f)) ∧ (∃ g, v = .slice (some ⟨g, 0, none⟩) 64 64) ∧ Below w.heap.size w w' := by
  have HP := Lib.hid hP; clear hP
  have HF := Lib.hid hf; clear hf
  have HC := Lib.hid (And.intro hc (And.intro hgl h1))
  have c := hr 212 (by omega)
  have H0 := Lib.hid (show CQ w g o f (fun _ => 0) (fun _ => 0) (fun _ => 0) (((w.alloc (.cells #[.int .u64 0, .int .u64 0, .int .u64 0, .int .u64 0, .int .u64 0, .int .u64 0, .int .u64 0, .int .u64 0] 54)).alloc (.cells #[.int .u64 0, .int .u64 0, .int .u64 0, .int .u64 0, .int .u64 0, .int .u64 0, .int .u64 0, .int .u64 0, .int .u64 0, .int .u64 0, .int .u64 0, .int .u64 0, .int .u64 0, .int .u64 0, .int .u64 0, .int .u64 0] 55)).alloc (.cells #[.int .u64 0, .int .u64 0] 56)) from by
    have hb : Below w.heap.size w (((w.alloc (.cells #[.int .u64 0, .int .u64 0, .int .u64 0, .int .u64 0, .int .u64 0, .int .u64 0, .int .u64 0, .int .u64 0] 54)).alloc (.cells #[.int .u64 0, .int .u64 0, .int .u64 0, .int .u64 0, .int .u64 0, .int .u64 0, .int .u64 0, .int .u64 0, .int .u64 0, .int .u64 0, .int .u64 0, .int .u64 0, .int .u64 0, .int .u64 0, .int .u64 0, .int .u64 0] 55)).alloc (.cells #[.int .u64 0, .int .u64 0] 56)) := by go_grown
    exact ⟨hb, (heap3 _ _ _ _).1, (heap3 _ _ _ _).2.1, (heap3 _ _ _ _).2.2, hgl, fun j hj => (hb.cell (p := ⟨g, o + j, none⟩) hgl).trans (hr j hj)⟩)
  obtain ⟨x, hx⟩ : ∃ x, f 212 = x := ⟨_, rfl⟩
  rw [hx] at c h1
  have h1' : ¬ (1 : Int) < x := by omega
  have HX := Lib.hid hx
  clear hr hx h1 hgl
  go_enter Tryd.func39, Tryd.ntmps39
  go_wp2_with fail
  refine region_quiet_tail 3 (CQ w g o f (fun _ => 0) (fun _ => 0) (fun _ => 0)) (by kernel_rfl) (by kernel_rfl) (H0.out.drew) ?_
  simp only [List.take_succ_cons, List.take_zero, List.drop_succ_cons, List.drop_zero]
  with_reducible refine q_sem2 (Instr.sliceAt 54 (.pointer (some ⟨w.heap.size, 0, none⟩)) none none none) (.slice (some ⟨w.heap.size, 0, none⟩) 8 8) (by kernel_rfl) (by kernel_rfl) (fun w' _ => sl_a8 _ w') ?_
  with_reducible refine q_val (.slice (some ⟨g, o, none⟩) 213 cap) (by kernel_rfl) (fun _ _ => by kernel_rfl) ?_
  with_reducible refine q_sem2 (Instr.sliceAt 22 (.slice (some ⟨g, o, none⟩) 213 cap) (some (.int .i64 (4 : Nat))) none none) (.slice (some ⟨g, o + 4, none⟩) 209 (cap - 4)) (by kernel_rfl) (by kernel_rfl) (fun w' _ => sl_l (L := 213) (l := 4) (by omega) (by have := HC.out.1; omega) w') ?_
  with_reducible refine wpQuiet_nil ?_
  intro wx hC
  have HA := Lib.hid hC
  clear hC H0
  simp only [Act.put, List.setIfInBounds_toArray, List.set_cons_succ, List.set_cons_zero]
  go_wp2_with fail
  refine (read_any 54 w.heap.size 8 g (o + 4) 209 (cap - 4) (fun j => f (4 + j)) (fun _ => 0) (fun j => HF.out _) (by omega) (by omega) (by have := HC.out.1; omega) (by have := HA.out.gl; omega) wx HA.out.r0 (by have := HA.out.gl; have := HA.out.high; omega) (fun j hj => by rw [Nat.add_assoc]; exact HA.out.rd (4 + j) (by omega))).mono ?_
  rintro e w5 ⟨rfl, hbt, hrow⟩
  have HB := Lib.hid (HA.out.t0 hbt hrow)
  clear hbt hrow HA c
  simp only [Nat.reduceMul, Nat.reduceSub, Nat.add_assoc, Nat.reduceAdd, Nat.sub_sub]
  have hs16 := sl_a16 (w.heap.size + 1)
  go_wp2_with fail
  refine (read_any 55 (w.heap.size + 1) 16 g (o + 68) 145 (cap - 68) (fun j => f (68 + j)) (fun _ => 0) (fun j => HF.out _) (by omega) (by omega) (by have := HC.out.1; omega) (by have := HB.out.gl; omega) w5 HB.out.r1 (by have := HB.out.gl; have := HB.out.high; omega) (fun j hj => by rw [Nat.add_assoc]; exact HB.out.rd (68 + j) (by omega))).mono ?_
  rintro e w6 ⟨rfl, hbt, hrow⟩
  have HD := Lib.hid (HB.out.t1 hbt hrow)
  clear hbt hrow HB hs16
  simp only [Nat.reduceMul, Nat.reduceSub, Nat.add_assoc, Nat.reduceAdd, Nat.sub_sub]
  have hs2 := sl_a2 (w.heap.size + 1 + 1)
  simp only [Nat.add_assoc, Nat.reduceAdd] at hs2
  go_wp2_with fail
  refine (read_any 56 (w.heap.size + 2) 2 g (o + 196) 17 (cap - 196) (fun j => f (196 + j)) (fun _ => 0) (fun j => HF.out _) (by omega) (by omega) (by have := HC.out.1; omega) (by have := HD.out.gl; omega) w6 HD.out.r2 (by have := HD.out.gl; have := HD.out.high; omega) (fun j hj => by rw [Nat.add_assoc]; exact HD.out.rd (196 + j) (by omega))).mono ?_
  rintro e w7 ⟨rfl, hbt, hrow⟩
  have HE := Lib.hid (HD.out.t2 hbt hrow)
  clear hbt hrow HD hs2
  simp only [Nat.reduceMul, Nat.reduceSub, Nat.add_assoc, Nat.reduceAdd, Nat.sub_sub]
  have HRN := Lib.hid (show ∀ wx, CQ w g o f (nums fun j => f (4 + j)) (nums fun j => f (68 + j)) (nums fun j => f (196 + j)) wx → Calls Tryd.prog 73 #[.slice (some ⟨g, o, none⟩) 213 cap] wx (fun e w' => e = .returned (.int .u32 (r4 f 4 : Nat)) ∧ CQ w g o f (nums fun j => f (4 + j)) (nums fun j => f (68 + j)) (nums fun j => f (196 + j)) w') from fun wx c => (rounds_any g o 213 cap f HF.out (by omega) HC.out.1 wx (fun j hj => c.rd j (by omega))).mono fun e w' hh => ⟨hh.1, hh.2 ▸ c⟩)
  have HBF := Lib.hid (show ∀ wx, CQ w g o f (nums fun j => f (4 + j)) (nums fun j => f (68 + j)) (nums fun j => f (196 + j)) wx → Calls Tryd.prog 36 #[.int .u32 (r4 f 4 : Nat), .agg (ar .u64 8 (nums fun j => f (4 + j))), .agg (ar .u64 16 (nums fun j => f (68 + j))), .agg (ar .u64 2 (nums fun j => f (196 + j))), .bool (decide (x = 1))] wx (fun e w' => e = .returned (.agg (ar .u64 8 (callV f))) ∧ CQ w g o f (nums fun j => f (4 + j)) (nums fun j => f (68 + j)) (nums fun j => f (196 + j)) w') from fun wx c => (bf_any (r4 f 4) (nums fun j => f (4 + j)) (nums fun j => f (68 + j)) (nums fun j => f (196 + j)) (decide (x = 1)) (r4_lt HF.out 4) wx (HP.out.below c.old)).mono fun e w' hh => ⟨by rw [hh.1, ← HX.out]; rfl, c.below hh.2⟩)
  obtain ⟨h, hh⟩ : ∃ h, (nums fun j => f (4 + j)) = h := ⟨_, rfl⟩
  obtain ⟨m, hm⟩ : ∃ m, (nums fun j => f (68 + j)) = m := ⟨_, rfl⟩
  obtain ⟨t, ht⟩ : ∃ t, (nums fun j => f (196 + j)) = t := ⟨_, rfl⟩
  rw [hh, hm, ht] at HE HRN HBF
  clear hh hm ht
  obtain ⟨r, hr⟩ : ∃ r, r4 f 4 = r := ⟨_, rfl⟩
  rw [hr] at HRN HBF
  clear hr
  have HJ := Lib.hid (fun w => joined_any (callV f) (callV_range f) w)
  obtain ⟨ro, hro⟩ : ∃ ro, callV f = ro := ⟨_, rfl⟩
  rw [hro] at HBF HJ
  have HRO := Lib.hid hro
  clear hro
  go_wp2_with fail
  refine region_quiet_tail 10 (CQ w g o f h m t) (by kernel_rfl) (by kernel_rfl) (HE.out.drew) ?_
  simp only [List.take_succ_cons, List.take_zero, List.drop_succ_cons, List.drop_zero]
  with_reducible refine q_val (.slice (some ⟨g, o, none⟩) 213 cap) (by kernel_rfl) (fun _ _ => by kernel_rfl) ?_
  with_reducible refine q_call 73 #[.slice (some ⟨g, o, none⟩) 213 cap] (.int .u32 (r : Nat)) (by kernel_rfl) (fun _ => by kernel_rfl) (HRN.out) ?_
  with_reducible refine q_load 54 (.tmp 4) (.pointer (some ⟨w.heap.size, 0, none⟩)) (.agg (ar .u64 8 h)) rfl (by kernel_rfl) (by kernel_rfl) (fun _ c => (by exact load_8r c.r0)) ?_
  with_reducible refine q_load 55 (.tmp 5) (.pointer (some ⟨w.heap.size + 1, 0, none⟩)) (.agg (ar .u64 16 m)) rfl (by kernel_rfl) (by kernel_rfl) (fun _ c => (by exact load_16u c.r1)) ?_
  with_reducible refine q_load 56 (.tmp 6) (.pointer (some ⟨w.heap.size + 2, 0, none⟩)) (.agg (ar .u64 2 t)) rfl (by kernel_rfl) (by kernel_rfl) (fun _ c => (by exact load_2u c.r2)) ?_
  with_reducible refine q_val (.slice (some ⟨g, o + 212, none⟩) 1 (cap - 212)) (by kernel_rfl) (fun _ _ => by kernel_rfl) ?_
  with_reducible refine q_sem2 (Instr.indexAt 22 (.slice (some ⟨g, o + 212, none⟩) 1 (cap - 212)) (.int .i64 0)) (.pointer (some ⟨g, o + 212, none⟩)) (by kernel_rfl) (by kernel_rfl) (fun w' _ => ix0 g (o + 212) 1 _ (by omega) w') ?_
  with_reducible refine q_load 5 (.tmp 33) (.pointer (some ⟨g, o + 212, none⟩)) (.int .u8 (x : Nat)) rfl (by kernel_rfl) (by kernel_rfl) (fun _ c => (by exact load_u8 _ _ _ _ ((c.rd 212 (by omega)).trans (by rw [HX.out])))) ?_
  with_reducible refine q_bin .eql 5 _ _ 5 (.int .u8 (x : Nat)) (.int .u8 1) (.bool (decide (x = 1))) rfl (by kernel_rfl) (by kernel_rfl) (by kernel_rfl) (fun _ => by kernel_rfl) (fun w' => eql_u8 x w') ?_
  with_reducible refine q_call 36 #[.int .u32 (r : Nat), .agg (ar .u64 8 h), .agg (ar .u64 16 m), .agg (ar .u64 2 t), .bool (decide (x = 1))] (.agg (ar .u64 8 ro)) (by kernel_rfl) (fun _ => by kernel_rfl) (HBF.out) ?_
  with_reducible refine wpQuiet_nil ?_
  intro wx hC
  have HG := Lib.hid hC
  clear hC HE
  simp only [Act.put, List.setIfInBounds_toArray, List.set_cons_succ, List.set_cons_zero]
  go_wp2_with fail
  refine (HJ.out _).mono ?_
  rintro e w9 ⟨v, rfl, hA, hg, hb⟩
  have HZ := Lib.hid (And.intro hA (And.intro hg (HG.out.old.trans (hb.mono HG.out.old.size))))
  clear hA hg hb HG
  go_wp2_with fail
  go_ret2
  exact ⟨v, rfl, by rw [HRO.out]; exact HZ.out.1, HZ.out.2⟩
end Go.Proofs.YtoeomlmnejhgpaaDoor

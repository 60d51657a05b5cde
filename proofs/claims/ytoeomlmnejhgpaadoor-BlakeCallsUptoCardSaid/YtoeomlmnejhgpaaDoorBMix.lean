/- BLAKE2b: what blake.mix comes to: two numbers mixed into four of sixteen. -/
import Derived.Test.YtoeomlmnejhgpaaDoorBDown
import Derived.Test.YtoeomlmnejhgpaaDoorTail
import Derived.Test.YtoeomlmnejhgpaaDoorQ
import Derived.StillTailTactics
import Derived.StillTactics
namespace Go.Proofs.YtoeomlmnejhgpaaDoor
open Go.RowKit

structure But (S : Nat) (w w' : World) : Prop where
  os : w'.os = w.os
  tape : w'.tape = w.tape
  output : w'.output = w.output
  size : w'.heap.size = w.heap.size
  block : ∀ k, k ≠ S → w'.heap[k]? = w.heap[k]?
  frozen : ∀ j, w'.frozen? ⟨S, j, none⟩ = w.frozen? ⟨S, j, none⟩
theorem But.refl (S : Nat) (w : World) : But S w w := ⟨rfl, rfl, rfl, rfl, fun _ _ => rfl, fun _ => rfl⟩
theorem But.set {S : Nat} {w w' : World} (h : But S w w') (j : Nat) (u : Value) : But S w (w'.setCell ⟨S, j, none⟩ u) :=
  ⟨h.os, h.tape, h.output, by simp [h.size], fun k hk => by rw [Below.heap_setCell _ _ _ _ hk]; exact h.block k hk, fun i => by rw [World.frozen?_setCell]; exact h.frozen i⟩
theorem But.trans {S : Nat} {w w' w'' : World} (h : But S w w') (h' : But S w' w'') : But S w w'' :=
  ⟨h'.os.trans h.os, h'.tape.trans h.tape, h'.output.trans h.output, h'.size.trans h.size, fun k hk => (h'.block k hk).trans (h.block k hk), fun j => (h'.frozen j).trans (h.frozen j)⟩
theorem But.cell {S : Nat} {w w' : World} (h : But S w w') {p : Addr} (hp : p.block ≠ S) : w'.cell? p = w.cell? p := World.cell?_of_block (w := w) (h.block p.block hp)
theorem But.below {S B : Nat} {w0 w w' : World} (h0 : Below B w0 w) (h : But S w w') (hB : B ≤ S) : Below B w0 w' :=
  h0.trans ⟨h.os, h.tape, h.output, by rw [h.size]; exact Nat.le_refl _, fun k hk => h.block k (by omega)⟩
theorem But.drew {S : Nat} {w w' : World} (h : But S w w') : But S w w'.drew := ⟨h.os, h.tape, h.output, h.size, h.block, h.frozen⟩
/-- The four numbers behind a mix. -/
def mxA (A B x : Int) : Int := (A + B + x) % 18446744073709551616
def mxD (s : Nat) (D A : Int) : Int := rdn s (bits .xor .u64 D A)
def mxC (C D : Int) : Int := (C + D) % 18446744073709551616
structure Qd where
  a : Int
  b : Int
  c : Int
  d : Int
def half (s1 s2 : Nat) (x : Int) (q : Qd) : Qd :=
  let a := mxA q.a q.b x
  let d := mxD s1 q.d a
  let c := mxC q.c d
  ⟨a, mxD s2 q.b c, c, d⟩
/-- Two numbers mixed into four. -/
def mxq (x y : Int) (q : Qd) : Qd := half 16 63 y (half 32 24 x q)
/-- Sixteen numbers with four of them put. -/
def putq (v : Nat → Int) (a b c d : Nat) (q : Qd) (i : Nat) : Int := if i = a then q.a else if i = b then q.b else if i = c then q.c else if i = d then q.d else v i
/-- Two numbers mixed into four of sixteen. -/
def mxv (v : Nat → Int) (a b c d : Nat) (x y : Int) : Nat → Int := putq v a b c d (mxq x y ⟨v a, v b, v c, v d⟩)
theorem cell_row16 {w : World} {g : Nat} {t : TypeId} {h : Nat → Int} (hg : w.heap[g]? = some (.cells (ar .u64 16 h) t (0, 0))) (j : Nat) (hj : j < 16) : w.cell? ⟨g, j, none⟩ = some (.int .u64 (h j)) :=
  (cell_of_row w _ j _ _ _ hg).trans (ar_at _ _ _ _ hj)
theorem load_u64 (g j : Nat) (y : Int) (w : World) (h : w.cell? ⟨g, j, none⟩ = some (.int .u64 y)) : (Instr.loadAt 34 (.pointer (some ⟨g, j, none⟩))).run Tryd.prog w = .ok (.int .u64 y) w := by
  go_simp
/-- The worlds of a mix: the block V holds these sixteen, the others are as they were. -/
structure CV (w : World) (V : Nat) (v : Nat → Int) (wx : World) : Prop where
  but : But V w wx
  row : wx.heap[V]? = some (.cells (ar .u64 16 v) 99 (0, 0))
theorem CV.drew {w wx : World} {V : Nat} {v : Nat → Int} (c : CV w V v wx) : CV w V v wx.drew := ⟨c.but.drew, c.row⟩
theorem CV.at_ {w wx : World} {V : Nat} {v : Nat → Int} (c : CV w V v wx) (j : Nat) (hj : j < 16) : (Instr.loadAt 34 (.pointer (some ⟨V, j, none⟩))).run Tryd.prog wx = .ok (.int .u64 (v j)) wx := load_u64 _ _ _ _ (cell_row16 c.row j hj)
theorem CV.at' {w wx : World} {V : Nat} {v : Nat → Int} (c : CV w V v wx) (j : Nat) (hj : j < 16) (y : Int) (hy : v j = y) : (Instr.loadAt 34 (.pointer (some ⟨V, j, none⟩))).run Tryd.prog wx = .ok (.int .u64 y) wx := by rw [← hy]; exact c.at_ j hj
theorem CV.set {w wx : World} {V : Nat} {v : Nat → Int} (c : CV w V v wx) (j : Nat) (hj : j < 16) (y : Int) : CV w V (updI v j y) (wx.setCell ⟨V, j, none⟩ (.int .u64 y)) :=
  ⟨c.but.set j _, (heap_setCell_same _ _ _ _ _ _ c.row).trans (by rw [ar_set _ _ _ _ _ hj])⟩
set_option maxRecDepth 100000 in
set_option maxHeartbeats 4000000 in
-- WHAT blake.mix COMES TO.
theorem bmix_any (V a b c d : Nat) (v : Nat → Int) (x y : Int) (ha : a < 16) (hb : b < 16) (hc : c < 16) (hd : d < 16) (hab : a ≠ b) (hac : a ≠ c) (had : a ≠ d) (hbc : b ≠ c) (hbd : b ≠ d) (hcd : c ≠ d) (w : World) (hw : w.heap[V]? = some (.cells (ar .u64 16 v) 99 (0, 0))) :
    Calls Tryd.prog 87 #[.pointer (some ⟨V, a, none⟩), .pointer (some ⟨V, b, none⟩), .pointer (some ⟨V, c, none⟩), .pointer (some ⟨V, d, none⟩), .int .u64 x, .int .u64 y] w fun e w' => e = .returned (.tuple #[]) ∧ CV w V (mxv v a b c d x y) w' := by
  have H0 := Lib.hid (show CV w V v w from ⟨But.refl _ _, hw⟩)
  clear hw
  go_enter Tryd.func87, Tryd.ntmps87
  obtain ⟨A, hA⟩ : ∃ A, v a = A := ⟨_, rfl⟩
  obtain ⟨B, hB⟩ : ∃ B, v b = B := ⟨_, rfl⟩
  obtain ⟨C, hC⟩ : ∃ C, v c = C := ⟨_, rfl⟩
  obtain ⟨D, hD⟩ : ∃ D, v d = D := ⟨_, rfl⟩
  -- region 0
  go_wp2_with fail
  refine region_quiet_tail 10 (CV w V v) (by kernel_rfl) (by kernel_rfl) H0.out.drew ?_
  simp only [List.take_succ_cons, List.take_zero, List.drop_succ_cons, List.drop_zero]
  with_reducible refine q_val (.pointer (some ⟨V, a, none⟩)) (by kernel_rfl) (fun _ _ => by kernel_rfl) ?_
  with_reducible refine q_val (.pointer (some ⟨V, a, none⟩)) (by kernel_rfl) (fun _ _ => by kernel_rfl) ?_
  with_reducible refine q_load 34 (.tmp 13) (.pointer (some ⟨V, a, none⟩)) (.int .u64 (A)) rfl (by kernel_rfl) (by kernel_rfl) (fun _ h => h.at' a ha _ hA) ?_
  with_reducible refine q_val (.pointer (some ⟨V, b, none⟩)) (by kernel_rfl) (fun _ _ => by kernel_rfl) ?_
  with_reducible refine q_val (.pointer (some ⟨V, b, none⟩)) (by kernel_rfl) (fun _ _ => by kernel_rfl) ?_
  with_reducible refine q_load 34 (.tmp 16) (.pointer (some ⟨V, b, none⟩)) (.int .u64 (B)) rfl (by kernel_rfl) (by kernel_rfl) (fun _ h => h.at' b hb _ hB) ?_
  with_reducible refine q_val (.int .u64 (x)) (by kernel_rfl) (fun _ _ => by kernel_rfl) ?_
  with_reducible refine q_val (.int .u64 (IntKind.u64.wrap (B + x))) (by kernel_rfl) (fun _ _ => by kernel_rfl) ?_
  with_reducible refine q_val (.int .u64 (IntKind.u64.wrap (A + IntKind.u64.wrap (B + x)))) (by kernel_rfl) (fun _ _ => by kernel_rfl) ?_
  with_reducible refine q_val (.pointer (some ⟨V, a, none⟩)) (by kernel_rfl) (fun _ _ => by kernel_rfl) ?_
  with_reducible refine wpQuiet_nil ?_
  intro w1 hCx
  simp only [Act.put, List.setIfInBounds_toArray, List.set_cons_succ, List.set_cons_zero]
  have e0 : IntKind.u64.wrap (A + IntKind.u64.wrap (B + x)) = mxA A B x := by unfold mxA; rw [IntKind.wrap_u64, IntKind.wrap_u64]; omega
  rw [e0]
  obtain ⟨A1, hn0⟩ : ∃ z, mxA A B x = z := ⟨_, rfl⟩
  rw [hn0]
  have co0 := cell_row16 hCx.row a ha
  have fo0 := frozen_of_row _ _ a _ _ hCx.row
  have H1 := Lib.hid (hCx.set a ha A1)
  obtain ⟨v1, hv0⟩ : ∃ f, updI v a A1 = f := ⟨_, rfl⟩
  rw [hv0] at H1
  have k1a : v1 a = A1 := by rw [← hv0]; unfold updI; rw [if_pos rfl]
  have k1b : v1 b = B := by rw [← hv0]; unfold updI; rw [if_neg (Ne.symm hab)]; exact hB
  have k1c : v1 c = C := by rw [← hv0]; unfold updI; rw [if_neg (Ne.symm hac)]; exact hC
  have k1d : v1 d = D := by rw [← hv0]; unfold updI; rw [if_neg (Ne.symm had)]; exact hD
  have m1 : ∀ i, i ≠ a → i ≠ b → i ≠ c → i ≠ d → v1 i = v i := fun i ia ib ic id => by rw [← hv0]; unfold updI; rw [if_neg ia]
  have G1 := Lib.hid (And.intro hn0 (And.intro m1 trivial))
  clear hCx e0 hv0
  -- region 1
  go_wp2_with fail
  refine region_quiet_tail 10 (CV w V v1) (by kernel_rfl) (by kernel_rfl) H1.out.drew ?_
  simp only [List.take_succ_cons, List.take_zero, List.drop_succ_cons, List.drop_zero]
  with_reducible refine q_val (.pointer (some ⟨V, d, none⟩)) (by kernel_rfl) (fun _ _ => by kernel_rfl) ?_
  with_reducible refine q_val (.pointer (some ⟨V, d, none⟩)) (by kernel_rfl) (fun _ _ => by kernel_rfl) ?_
  with_reducible refine q_val (.pointer (some ⟨V, d, none⟩)) (by kernel_rfl) (fun _ _ => by kernel_rfl) ?_
  with_reducible refine q_load 34 (.tmp 24) (.pointer (some ⟨V, d, none⟩)) (.int .u64 (D)) rfl (by kernel_rfl) (by kernel_rfl) (fun _ h => h.at' d hd _ k1d) ?_
  with_reducible refine q_val (.pointer (some ⟨V, a, none⟩)) (by kernel_rfl) (fun _ _ => by kernel_rfl) ?_
  with_reducible refine q_val (.pointer (some ⟨V, a, none⟩)) (by kernel_rfl) (fun _ _ => by kernel_rfl) ?_
  with_reducible refine q_load 34 (.tmp 27) (.pointer (some ⟨V, a, none⟩)) (.int .u64 (A1)) rfl (by kernel_rfl) (by kernel_rfl) (fun _ h => h.at' a ha _ k1a) ?_
  with_reducible refine q_val (.int .u64 (bits .xor .u64 D A1)) (by kernel_rfl) (fun _ _ => by kernel_rfl) ?_
  with_reducible refine q_call 97 #[(.int .u64 (bits .xor .u64 D A1)), .int .i64 32] (.int .u64 (rdn 32 (bits .xor .u64 D A1))) (by kernel_rfl) (fun _ => by kernel_rfl) (fun wx hC => (bdown_32 _ wx).mono (by rintro e w' ⟨rfl, rfl⟩; exact ⟨rfl, hC⟩)) ?_
  with_reducible refine q_val (.pointer (some ⟨V, d, none⟩)) (by kernel_rfl) (fun _ _ => by kernel_rfl) ?_
  with_reducible refine wpQuiet_nil ?_
  intro w2 hCx
  simp only [Act.put, List.setIfInBounds_toArray, List.set_cons_succ, List.set_cons_zero]
  have e1 : rdn 32 (bits .xor .u64 D A1) = mxD 32 D A1 := rfl
  rw [e1]
  obtain ⟨D2, hn1⟩ : ∃ z, mxD 32 D A1 = z := ⟨_, rfl⟩
  rw [hn1]
  have co1 := cell_row16 hCx.row d hd
  have fo1 := frozen_of_row _ _ d _ _ hCx.row
  have H2 := Lib.hid (hCx.set d hd D2)
  obtain ⟨v2, hv1⟩ : ∃ f, updI v1 d D2 = f := ⟨_, rfl⟩
  rw [hv1] at H2
  have k2a : v2 a = A1 := by rw [← hv1]; unfold updI; rw [if_neg had]; exact k1a
  have k2b : v2 b = B := by rw [← hv1]; unfold updI; rw [if_neg hbd]; exact k1b
  have k2c : v2 c = C := by rw [← hv1]; unfold updI; rw [if_neg hcd]; exact k1c
  have k2d : v2 d = D2 := by rw [← hv1]; unfold updI; rw [if_pos rfl]
  have m2 : ∀ i, i ≠ a → i ≠ b → i ≠ c → i ≠ d → v2 i = v i := fun i ia ib ic id => by rw [← hv1]; unfold updI; rw [if_neg id]; exact m1 i ia ib ic id
  have G2 := Lib.hid (And.intro hn1 (And.intro m2 trivial))
  clear hCx e1 hv1
  -- region 2
  go_wp2_with fail
  refine region_quiet_tail 8 (CV w V v2) (by kernel_rfl) (by kernel_rfl) H2.out.drew ?_
  simp only [List.take_succ_cons, List.take_zero, List.drop_succ_cons, List.drop_zero]
  with_reducible refine q_val (.pointer (some ⟨V, c, none⟩)) (by kernel_rfl) (fun _ _ => by kernel_rfl) ?_
  with_reducible refine q_val (.pointer (some ⟨V, c, none⟩)) (by kernel_rfl) (fun _ _ => by kernel_rfl) ?_
  with_reducible refine q_load 34 (.tmp 33) (.pointer (some ⟨V, c, none⟩)) (.int .u64 (C)) rfl (by kernel_rfl) (by kernel_rfl) (fun _ h => h.at' c hc _ k2c) ?_
  with_reducible refine q_val (.pointer (some ⟨V, d, none⟩)) (by kernel_rfl) (fun _ _ => by kernel_rfl) ?_
  with_reducible refine q_val (.pointer (some ⟨V, d, none⟩)) (by kernel_rfl) (fun _ _ => by kernel_rfl) ?_
  with_reducible refine q_load 34 (.tmp 36) (.pointer (some ⟨V, d, none⟩)) (.int .u64 (D2)) rfl (by kernel_rfl) (by kernel_rfl) (fun _ h => h.at' d hd _ k2d) ?_
  with_reducible refine q_val (.int .u64 (IntKind.u64.wrap (C + D2))) (by kernel_rfl) (fun _ _ => by kernel_rfl) ?_
  with_reducible refine q_val (.pointer (some ⟨V, c, none⟩)) (by kernel_rfl) (fun _ _ => by kernel_rfl) ?_
  with_reducible refine wpQuiet_nil ?_
  intro w3 hCx
  simp only [Act.put, List.setIfInBounds_toArray, List.set_cons_succ, List.set_cons_zero]
  have e2 : IntKind.u64.wrap (C + D2) = mxC C D2 := by unfold mxC; rw [IntKind.wrap_u64]
  rw [e2]
  obtain ⟨C3, hn2⟩ : ∃ z, mxC C D2 = z := ⟨_, rfl⟩
  rw [hn2]
  have co2 := cell_row16 hCx.row c hc
  have fo2 := frozen_of_row _ _ c _ _ hCx.row
  have H3 := Lib.hid (hCx.set c hc C3)
  obtain ⟨v3, hv2⟩ : ∃ f, updI v2 c C3 = f := ⟨_, rfl⟩
  rw [hv2] at H3
  have k3a : v3 a = A1 := by rw [← hv2]; unfold updI; rw [if_neg hac]; exact k2a
  have k3b : v3 b = B := by rw [← hv2]; unfold updI; rw [if_neg hbc]; exact k2b
  have k3c : v3 c = C3 := by rw [← hv2]; unfold updI; rw [if_pos rfl]
  have k3d : v3 d = D2 := by rw [← hv2]; unfold updI; rw [if_neg (Ne.symm hcd)]; exact k2d
  have m3 : ∀ i, i ≠ a → i ≠ b → i ≠ c → i ≠ d → v3 i = v i := fun i ia ib ic id => by rw [← hv2]; unfold updI; rw [if_neg ic]; exact m2 i ia ib ic id
  have G3 := Lib.hid (And.intro hn2 (And.intro m3 trivial))
  clear hCx e2 hv2
  -- region 3
  go_wp2_with fail
  refine region_quiet_tail 10 (CV w V v3) (by kernel_rfl) (by kernel_rfl) H3.out.drew ?_
  simp only [List.take_succ_cons, List.take_zero, List.drop_succ_cons, List.drop_zero]
  with_reducible refine q_val (.pointer (some ⟨V, b, none⟩)) (by kernel_rfl) (fun _ _ => by kernel_rfl) ?_
  with_reducible refine q_val (.pointer (some ⟨V, b, none⟩)) (by kernel_rfl) (fun _ _ => by kernel_rfl) ?_
  with_reducible refine q_val (.pointer (some ⟨V, b, none⟩)) (by kernel_rfl) (fun _ _ => by kernel_rfl) ?_
  with_reducible refine q_load 34 (.tmp 42) (.pointer (some ⟨V, b, none⟩)) (.int .u64 (B)) rfl (by kernel_rfl) (by kernel_rfl) (fun _ h => h.at' b hb _ k3b) ?_
  with_reducible refine q_val (.pointer (some ⟨V, c, none⟩)) (by kernel_rfl) (fun _ _ => by kernel_rfl) ?_
  with_reducible refine q_val (.pointer (some ⟨V, c, none⟩)) (by kernel_rfl) (fun _ _ => by kernel_rfl) ?_
  with_reducible refine q_load 34 (.tmp 45) (.pointer (some ⟨V, c, none⟩)) (.int .u64 (C3)) rfl (by kernel_rfl) (by kernel_rfl) (fun _ h => h.at' c hc _ k3c) ?_
  with_reducible refine q_val (.int .u64 (bits .xor .u64 B C3)) (by kernel_rfl) (fun _ _ => by kernel_rfl) ?_
  with_reducible refine q_call 97 #[(.int .u64 (bits .xor .u64 B C3)), .int .i64 24] (.int .u64 (rdn 24 (bits .xor .u64 B C3))) (by kernel_rfl) (fun _ => by kernel_rfl) (fun wx hC => (bdown_24 _ wx).mono (by rintro e w' ⟨rfl, rfl⟩; exact ⟨rfl, hC⟩)) ?_
  with_reducible refine q_val (.pointer (some ⟨V, b, none⟩)) (by kernel_rfl) (fun _ _ => by kernel_rfl) ?_
  with_reducible refine wpQuiet_nil ?_
  intro w4 hCx
  simp only [Act.put, List.setIfInBounds_toArray, List.set_cons_succ, List.set_cons_zero]
  have e3 : rdn 24 (bits .xor .u64 B C3) = mxD 24 B C3 := rfl
  rw [e3]
  obtain ⟨B4, hn3⟩ : ∃ z, mxD 24 B C3 = z := ⟨_, rfl⟩
  rw [hn3]
  have co3 := cell_row16 hCx.row b hb
  have fo3 := frozen_of_row _ _ b _ _ hCx.row
  have H4 := Lib.hid (hCx.set b hb B4)
  obtain ⟨v4, hv3⟩ : ∃ f, updI v3 b B4 = f := ⟨_, rfl⟩
  rw [hv3] at H4
  have k4a : v4 a = A1 := by rw [← hv3]; unfold updI; rw [if_neg hab]; exact k3a
  have k4b : v4 b = B4 := by rw [← hv3]; unfold updI; rw [if_pos rfl]
  have k4c : v4 c = C3 := by rw [← hv3]; unfold updI; rw [if_neg (Ne.symm hbc)]; exact k3c
  have k4d : v4 d = D2 := by rw [← hv3]; unfold updI; rw [if_neg (Ne.symm hbd)]; exact k3d
  have m4 : ∀ i, i ≠ a → i ≠ b → i ≠ c → i ≠ d → v4 i = v i := fun i ia ib ic id => by rw [← hv3]; unfold updI; rw [if_neg ib]; exact m3 i ia ib ic id
  have G4 := Lib.hid (And.intro hn3 (And.intro m4 trivial))
  clear hCx e3 hv3
  -- region 4
  go_wp2_with fail
  refine region_quiet_tail 10 (CV w V v4) (by kernel_rfl) (by kernel_rfl) H4.out.drew ?_
  simp only [List.take_succ_cons, List.take_zero, List.drop_succ_cons, List.drop_zero]
  with_reducible refine q_val (.pointer (some ⟨V, a, none⟩)) (by kernel_rfl) (fun _ _ => by kernel_rfl) ?_
  with_reducible refine q_val (.pointer (some ⟨V, a, none⟩)) (by kernel_rfl) (fun _ _ => by kernel_rfl) ?_
  with_reducible refine q_load 34 (.tmp 51) (.pointer (some ⟨V, a, none⟩)) (.int .u64 (A1)) rfl (by kernel_rfl) (by kernel_rfl) (fun _ h => h.at' a ha _ k4a) ?_
  with_reducible refine q_val (.pointer (some ⟨V, b, none⟩)) (by kernel_rfl) (fun _ _ => by kernel_rfl) ?_
  with_reducible refine q_val (.pointer (some ⟨V, b, none⟩)) (by kernel_rfl) (fun _ _ => by kernel_rfl) ?_
  with_reducible refine q_load 34 (.tmp 54) (.pointer (some ⟨V, b, none⟩)) (.int .u64 (B4)) rfl (by kernel_rfl) (by kernel_rfl) (fun _ h => h.at' b hb _ k4b) ?_
  with_reducible refine q_val (.int .u64 (y)) (by kernel_rfl) (fun _ _ => by kernel_rfl) ?_
  with_reducible refine q_val (.int .u64 (IntKind.u64.wrap (B4 + y))) (by kernel_rfl) (fun _ _ => by kernel_rfl) ?_
  with_reducible refine q_val (.int .u64 (IntKind.u64.wrap (A1 + IntKind.u64.wrap (B4 + y)))) (by kernel_rfl) (fun _ _ => by kernel_rfl) ?_
  with_reducible refine q_val (.pointer (some ⟨V, a, none⟩)) (by kernel_rfl) (fun _ _ => by kernel_rfl) ?_
  with_reducible refine wpQuiet_nil ?_
  intro w5 hCx
  simp only [Act.put, List.setIfInBounds_toArray, List.set_cons_succ, List.set_cons_zero]
  have e4 : IntKind.u64.wrap (A1 + IntKind.u64.wrap (B4 + y)) = mxA A1 B4 y := by unfold mxA; rw [IntKind.wrap_u64, IntKind.wrap_u64]; omega
  rw [e4]
  obtain ⟨A5, hn4⟩ : ∃ z, mxA A1 B4 y = z := ⟨_, rfl⟩
  rw [hn4]
  have co4 := cell_row16 hCx.row a ha
  have fo4 := frozen_of_row _ _ a _ _ hCx.row
  have H5 := Lib.hid (hCx.set a ha A5)
  obtain ⟨v5, hv4⟩ : ∃ f, updI v4 a A5 = f := ⟨_, rfl⟩
  rw [hv4] at H5
  have k5a : v5 a = A5 := by rw [← hv4]; unfold updI; rw [if_pos rfl]
  have k5b : v5 b = B4 := by rw [← hv4]; unfold updI; rw [if_neg (Ne.symm hab)]; exact k4b
  have k5c : v5 c = C3 := by rw [← hv4]; unfold updI; rw [if_neg (Ne.symm hac)]; exact k4c
  have k5d : v5 d = D2 := by rw [← hv4]; unfold updI; rw [if_neg (Ne.symm had)]; exact k4d
  have m5 : ∀ i, i ≠ a → i ≠ b → i ≠ c → i ≠ d → v5 i = v i := fun i ia ib ic id => by rw [← hv4]; unfold updI; rw [if_neg ia]; exact m4 i ia ib ic id
  have G5 := Lib.hid (And.intro hn4 (And.intro m5 trivial))
  clear hCx e4 hv4
  -- region 5
  go_wp2_with fail
  refine region_quiet_tail 10 (CV w V v5) (by kernel_rfl) (by kernel_rfl) H5.out.drew ?_
  simp only [List.take_succ_cons, List.take_zero, List.drop_succ_cons, List.drop_zero]
  with_reducible refine q_val (.pointer (some ⟨V, d, none⟩)) (by kernel_rfl) (fun _ _ => by kernel_rfl) ?_
  with_reducible refine q_val (.pointer (some ⟨V, d, none⟩)) (by kernel_rfl) (fun _ _ => by kernel_rfl) ?_
  with_reducible refine q_val (.pointer (some ⟨V, d, none⟩)) (by kernel_rfl) (fun _ _ => by kernel_rfl) ?_
  with_reducible refine q_load 34 (.tmp 62) (.pointer (some ⟨V, d, none⟩)) (.int .u64 (D2)) rfl (by kernel_rfl) (by kernel_rfl) (fun _ h => h.at' d hd _ k5d) ?_
  with_reducible refine q_val (.pointer (some ⟨V, a, none⟩)) (by kernel_rfl) (fun _ _ => by kernel_rfl) ?_
  with_reducible refine q_val (.pointer (some ⟨V, a, none⟩)) (by kernel_rfl) (fun _ _ => by kernel_rfl) ?_
  with_reducible refine q_load 34 (.tmp 65) (.pointer (some ⟨V, a, none⟩)) (.int .u64 (A5)) rfl (by kernel_rfl) (by kernel_rfl) (fun _ h => h.at' a ha _ k5a) ?_
  with_reducible refine q_val (.int .u64 (bits .xor .u64 D2 A5)) (by kernel_rfl) (fun _ _ => by kernel_rfl) ?_
  with_reducible refine q_call 97 #[(.int .u64 (bits .xor .u64 D2 A5)), .int .i64 16] (.int .u64 (rdn 16 (bits .xor .u64 D2 A5))) (by kernel_rfl) (fun _ => by kernel_rfl) (fun wx hC => (bdown_16 _ wx).mono (by rintro e w' ⟨rfl, rfl⟩; exact ⟨rfl, hC⟩)) ?_
  with_reducible refine q_val (.pointer (some ⟨V, d, none⟩)) (by kernel_rfl) (fun _ _ => by kernel_rfl) ?_
  with_reducible refine wpQuiet_nil ?_
  intro w6 hCx
  simp only [Act.put, List.setIfInBounds_toArray, List.set_cons_succ, List.set_cons_zero]
  have e5 : rdn 16 (bits .xor .u64 D2 A5) = mxD 16 D2 A5 := rfl
  rw [e5]
  obtain ⟨D6, hn5⟩ : ∃ z, mxD 16 D2 A5 = z := ⟨_, rfl⟩
  rw [hn5]
  have co5 := cell_row16 hCx.row d hd
  have fo5 := frozen_of_row _ _ d _ _ hCx.row
  have H6 := Lib.hid (hCx.set d hd D6)
  obtain ⟨v6, hv5⟩ : ∃ f, updI v5 d D6 = f := ⟨_, rfl⟩
  rw [hv5] at H6
  have k6a : v6 a = A5 := by rw [← hv5]; unfold updI; rw [if_neg had]; exact k5a
  have k6b : v6 b = B4 := by rw [← hv5]; unfold updI; rw [if_neg hbd]; exact k5b
  have k6c : v6 c = C3 := by rw [← hv5]; unfold updI; rw [if_neg hcd]; exact k5c
  have k6d : v6 d = D6 := by rw [← hv5]; unfold updI; rw [if_pos rfl]
  have m6 : ∀ i, i ≠ a → i ≠ b → i ≠ c → i ≠ d → v6 i = v i := fun i ia ib ic id => by rw [← hv5]; unfold updI; rw [if_neg id]; exact m5 i ia ib ic id
  have G6 := Lib.hid (And.intro hn5 (And.intro m6 trivial))
  clear hCx e5 hv5
  -- region 6
  go_wp2_with fail
  refine region_quiet_tail 8 (CV w V v6) (by kernel_rfl) (by kernel_rfl) H6.out.drew ?_
  simp only [List.take_succ_cons, List.take_zero, List.drop_succ_cons, List.drop_zero]
  with_reducible refine q_val (.pointer (some ⟨V, c, none⟩)) (by kernel_rfl) (fun _ _ => by kernel_rfl) ?_
  with_reducible refine q_val (.pointer (some ⟨V, c, none⟩)) (by kernel_rfl) (fun _ _ => by kernel_rfl) ?_
  with_reducible refine q_load 34 (.tmp 71) (.pointer (some ⟨V, c, none⟩)) (.int .u64 (C3)) rfl (by kernel_rfl) (by kernel_rfl) (fun _ h => h.at' c hc _ k6c) ?_
  with_reducible refine q_val (.pointer (some ⟨V, d, none⟩)) (by kernel_rfl) (fun _ _ => by kernel_rfl) ?_
  with_reducible refine q_val (.pointer (some ⟨V, d, none⟩)) (by kernel_rfl) (fun _ _ => by kernel_rfl) ?_
  with_reducible refine q_load 34 (.tmp 74) (.pointer (some ⟨V, d, none⟩)) (.int .u64 (D6)) rfl (by kernel_rfl) (by kernel_rfl) (fun _ h => h.at' d hd _ k6d) ?_
  with_reducible refine q_val (.int .u64 (IntKind.u64.wrap (C3 + D6))) (by kernel_rfl) (fun _ _ => by kernel_rfl) ?_
  with_reducible refine q_val (.pointer (some ⟨V, c, none⟩)) (by kernel_rfl) (fun _ _ => by kernel_rfl) ?_
  with_reducible refine wpQuiet_nil ?_
  intro w7 hCx
  simp only [Act.put, List.setIfInBounds_toArray, List.set_cons_succ, List.set_cons_zero]
  have e6 : IntKind.u64.wrap (C3 + D6) = mxC C3 D6 := by unfold mxC; rw [IntKind.wrap_u64]
  rw [e6]
  obtain ⟨C7, hn6⟩ : ∃ z, mxC C3 D6 = z := ⟨_, rfl⟩
  rw [hn6]
  have co6 := cell_row16 hCx.row c hc
  have fo6 := frozen_of_row _ _ c _ _ hCx.row
  have H7 := Lib.hid (hCx.set c hc C7)
  obtain ⟨v7, hv6⟩ : ∃ f, updI v6 c C7 = f := ⟨_, rfl⟩
  rw [hv6] at H7
  have k7a : v7 a = A5 := by rw [← hv6]; unfold updI; rw [if_neg hac]; exact k6a
  have k7b : v7 b = B4 := by rw [← hv6]; unfold updI; rw [if_neg hbc]; exact k6b
  have k7c : v7 c = C7 := by rw [← hv6]; unfold updI; rw [if_pos rfl]
  have k7d : v7 d = D6 := by rw [← hv6]; unfold updI; rw [if_neg (Ne.symm hcd)]; exact k6d
  have m7 : ∀ i, i ≠ a → i ≠ b → i ≠ c → i ≠ d → v7 i = v i := fun i ia ib ic id => by rw [← hv6]; unfold updI; rw [if_neg ic]; exact m6 i ia ib ic id
  have G7 := Lib.hid (And.intro hn6 (And.intro m7 trivial))
  clear hCx e6 hv6
  -- region 7
  go_wp2_with fail
  refine region_quiet_tail 10 (CV w V v7) (by kernel_rfl) (by kernel_rfl) H7.out.drew ?_
  simp only [List.take_succ_cons, List.take_zero, List.drop_succ_cons, List.drop_zero]
  with_reducible refine q_val (.pointer (some ⟨V, b, none⟩)) (by kernel_rfl) (fun _ _ => by kernel_rfl) ?_
  with_reducible refine q_val (.pointer (some ⟨V, b, none⟩)) (by kernel_rfl) (fun _ _ => by kernel_rfl) ?_
  with_reducible refine q_val (.pointer (some ⟨V, b, none⟩)) (by kernel_rfl) (fun _ _ => by kernel_rfl) ?_
  with_reducible refine q_load 34 (.tmp 80) (.pointer (some ⟨V, b, none⟩)) (.int .u64 (B4)) rfl (by kernel_rfl) (by kernel_rfl) (fun _ h => h.at' b hb _ k7b) ?_
  with_reducible refine q_val (.pointer (some ⟨V, c, none⟩)) (by kernel_rfl) (fun _ _ => by kernel_rfl) ?_
  with_reducible refine q_val (.pointer (some ⟨V, c, none⟩)) (by kernel_rfl) (fun _ _ => by kernel_rfl) ?_
  with_reducible refine q_load 34 (.tmp 83) (.pointer (some ⟨V, c, none⟩)) (.int .u64 (C7)) rfl (by kernel_rfl) (by kernel_rfl) (fun _ h => h.at' c hc _ k7c) ?_
  with_reducible refine q_val (.int .u64 (bits .xor .u64 B4 C7)) (by kernel_rfl) (fun _ _ => by kernel_rfl) ?_
  with_reducible refine q_call 97 #[(.int .u64 (bits .xor .u64 B4 C7)), .int .i64 63] (.int .u64 (rdn 63 (bits .xor .u64 B4 C7))) (by kernel_rfl) (fun _ => by kernel_rfl) (fun wx hC => (bdown_63 _ wx).mono (by rintro e w' ⟨rfl, rfl⟩; exact ⟨rfl, hC⟩)) ?_
  with_reducible refine q_val (.pointer (some ⟨V, b, none⟩)) (by kernel_rfl) (fun _ _ => by kernel_rfl) ?_
  with_reducible refine wpQuiet_nil ?_
  intro w8 hCx
  simp only [Act.put, List.setIfInBounds_toArray, List.set_cons_succ, List.set_cons_zero]
  have e7 : rdn 63 (bits .xor .u64 B4 C7) = mxD 63 B4 C7 := rfl
  rw [e7]
  obtain ⟨B8, hn7⟩ : ∃ z, mxD 63 B4 C7 = z := ⟨_, rfl⟩
  rw [hn7]
  have co7 := cell_row16 hCx.row b hb
  have fo7 := frozen_of_row _ _ b _ _ hCx.row
  have H8 := Lib.hid (hCx.set b hb B8)
  obtain ⟨v8, hv7⟩ : ∃ f, updI v7 b B8 = f := ⟨_, rfl⟩
  rw [hv7] at H8
  have k8a : v8 a = A5 := by rw [← hv7]; unfold updI; rw [if_neg hab]; exact k7a
  have k8b : v8 b = B8 := by rw [← hv7]; unfold updI; rw [if_pos rfl]
  have k8c : v8 c = C7 := by rw [← hv7]; unfold updI; rw [if_neg (Ne.symm hbc)]; exact k7c
  have k8d : v8 d = D6 := by rw [← hv7]; unfold updI; rw [if_neg (Ne.symm hbd)]; exact k7d
  have m8 : ∀ i, i ≠ a → i ≠ b → i ≠ c → i ≠ d → v8 i = v i := fun i ia ib ic id => by rw [← hv7]; unfold updI; rw [if_neg ib]; exact m7 i ia ib ic id
  have G8 := Lib.hid (And.intro hn7 (And.intro m8 trivial))
  clear hCx e7 hv7
  have hq : mxq x y ⟨A, B, C, D⟩ = (⟨A5, B8, C7, D6⟩ : Qd) := by
    simp only [mxq, half, hn0, hn1, hn2, hn3, hn4, hn5, hn6, hn7]
  have hv : v8 = mxv v a b c d x y := by
    funext i
    unfold mxv putq
    rw [hA, hB, hC, hD, hq]
    by_cases ia : i = a
    · rw [if_pos ia, ia]; exact k8a
    · rw [if_neg ia]
      by_cases ib : i = b
      · rw [if_pos ib, ib]; exact k8b
      · rw [if_neg ib]
        by_cases ic : i = c
        · rw [if_pos ic, ic]; exact k8c
        · rw [if_neg ic]
          by_cases id : i = d
          · rw [if_pos id, id]; exact k8d
          · rw [if_neg id]; exact m8 i ia ib ic id
  rw [hv] at H8
  go_wp2_with fail
  go_end0
  exact ⟨rfl, H8.out⟩
end Go.Proofs.YtoeomlmnejhgpaaDoor

/- bailiwicklaw01.WordDivides answers true, called with any two words: quotients and rests are the document's, and give back what was divided: the walk. (With it, merged: DividesAny.) -/
import Derived.Test.YthfadinocadhaaaDoorDV1
import Derived.Test.YthfadinocadhaaaDoorN1
import Derived.Test.YthfadinocadhaaaDoorM5
import Derived.Deep.DeepCutAuto
namespace Go.Proofs.YthfadinocadhaaaDoor
open Go.RowKit

theorem nb_same (x : Nat) (w : World) : (binOp BinOp.neq 24 (wv x) (wv x)).run Tryd.prog w = .ok (.bool false) w := by
  have h := nebx x x w
  simpa using h
theorem lssm (w : World) : (binOp BinOp.lss 3 (.int .i64 (-1)) (.int .i64 0)).run Tryd.prog w = .ok (.bool true) w := by kernel_rfl
theorem lssg (o1 o2 : Operand) (w : World) : (eqGuard BinOp.lss 3 o1 o2 (.int .i64 (-1)) (.int .i64 0)).run Tryd.prog w = .ok () w := by kernel_rfl
/-- The worlds of the last statements. -/
structure CL6 (w : World) (D E x y q r s t : Nat) (wx : World) : Prop where
  old : Below w.heap.size w wx
  rows : Rws [(w.heap.size, pw x), (w.heap.size + 1, pw y), (D, pw q), (D + 1, pw r), (E, pw s), (E + 1, pw t)] wx
theorem CL6.below {w wx w' : World} {D E x y q r s t : Nat} (h : CL6 w D E x y q r s t wx) (hb : Below wx.heap.size wx w') : CL6 w D E x y q r s t w' := ⟨h.old.trans (hb.mono h.old.size), h.rows.below hb⟩
theorem CL6.drew {w wx : World} {D E x y q r s t : Nat} (h : CL6 w D E x y q r s t wx) : CL6 w D E x y q r s t wx.drew := ⟨h.old.drew, h.rows⟩
theorem CL6.call {w : World} {D E x y q r s t : Nat} {f : FuncId} {args : Array Value} {v : Value} (h : ∀ w, Calls Tryd.prog f args w fun e w' => e = .returned v ∧ Below w.heap.size w w') : ∀ wx, CL6 w D E x y q r s t wx → Calls Tryd.prog f args wx fun e w' => e = .returned v ∧ CL6 w D E x y q r s t w' :=
  fun wx hC => (h wx).mono fun _ _ h => ⟨h.1, hC.below h.2⟩

set_option maxRecDepth 100000 in
set_option maxHeartbeats 4000000 in
theorem divides_none (x : Nat) (w : World)
    (h1 : ∀ w, Calls Tryd.prog 23 #[.agg (pw x), .agg (pw 0)] w fun e w' => e = .returned (.tuple #[.agg (pw 0), .agg (pw 0)]) ∧ Below w.heap.size w w')
    (h2 : ∀ w, Calls Tryd.prog 24 #[.agg (pw x), .agg (pw 0)] w fun e w' => e = .returned (.tuple #[.agg (pw 0), .agg (pw 0)]) ∧ Below w.heap.size w w')
    (k1 : ∀ w, Calls Tryd.prog 25 #[wv x, wv 0] w fun e w' => e = .returned (wv 0) ∧ Below w.heap.size w w')
    (k2 : ∀ w, Calls Tryd.prog 26 #[wv x, wv 0] w fun e w' => e = .returned (wv 0) ∧ Below w.heap.size w w')
    (k3 : ∀ w, Calls Tryd.prog 27 #[wv x, wv 0] w fun e w' => e = .returned (wv 0) ∧ Below w.heap.size w w')
    (k4 : ∀ w, Calls Tryd.prog 28 #[wv x, wv 0] w fun e w' => e = .returned (wv 0) ∧ Below w.heap.size w w') :
    Calls Tryd.prog 5 #[.agg (pw x), .agg (pw 0)] w fun e w' => e = .returned (.bool true) ∧ Below w.heap.size w w' := by
  have H1 := Lib.hid h1; clear h1
  have H2 := Lib.hid h2; clear h2
  have K1 := Lib.hid k1; clear k1
  have K2 := Lib.hid k2; clear k2
  have K3 := Lib.hid k3; clear k3
  have K4 := Lib.hid k4; clear k4
  have h4 := heap2 w (.cells (pw x) 24) (.cells (pw 0) 24)
  have A0 : Hid (Rws [(w.heap.size, pw x), (w.heap.size + 1, pw 0)] ((w.alloc (.cells (pw x) 24)).alloc (.cells (pw 0) 24))) := Lib.hid (by
    intro p hp
    simp only [List.mem_cons, List.not_mem_nil, or_false] at hp
    rcases hp with rfl | rfl
    · exact h4.1
    · exact h4.2)
  clear h4
  have B0 : Hid (Below w.heap.size w ((w.alloc (.cells (pw x) 24)).alloc (.cells (pw 0) 24))) := Lib.hid (by go_grown)
  go_enter Tryd.func5, Tryd.ntmps5
  go_wp2_with (first | (refine wpList_load_row rfl 24 _ rfl (w.heap.size) rfl 24 (pw x) (0, 0) _ (A0.out.is (w.heap.size) (pw x) (by simp)) Tryd.underlying24 rfl infoWord ?_) | (refine wpList_load_row rfl 24 _ rfl (w.heap.size + 1) rfl 24 (pw 0) (0, 0) _ (A0.out.is (w.heap.size + 1) (pw 0) (by simp)) Tryd.underlying24 rfl infoWord ?_))
  refine (H1.out _).mono ?_
  rintro e w1 ⟨rfl, hb⟩
  have A1 := Lib.hid (A0.out.below hb)
  have B1 := Lib.hid (B0.out.trans (hb.mono (by simp; omega)))
  have hl1 := A1.out.lt (w.heap.size + 1) (pw 0) (by simp)
  clear hb
  have P0 := Lib.hid ((A1.out.new #[.int .u64 0, .int .u64 0, .int .u64 0, .int .u64 0]).new #[.int .u64 0, .int .u64 0, .int .u64 0, .int .u64 0])
  have Pz : (w1.alloc (.cells #[.int .u64 0, .int .u64 0, .int .u64 0, .int .u64 0] 24)).heap.size = w1.heap.size + 1 := by simp
  have Pa : Hid (Rws [(w1.heap.size + 1, #[.int .u64 0, .int .u64 0, .int .u64 0, .int .u64 0]), (w1.heap.size, #[.int .u64 0, .int .u64 0, .int .u64 0, .int .u64 0]), (w.heap.size, pw x), (w.heap.size + 1, pw 0)] ((w1.alloc (.cells #[.int .u64 0, .int .u64 0, .int .u64 0, .int .u64 0] 24)).alloc (.cells #[.int .u64 0, .int .u64 0, .int .u64 0, .int .u64 0] 24))) := Lib.hid (fun p hp => P0.out p (by rw [Pz]; simp at hp ⊢; rcases hp with h | h | h | h <;> simp [h]))
  clear P0 Pz
  have Pb := Lib.hid (Pa.out.row w1.heap.size #[.int .u64 0, .int .u64 0, .int .u64 0, .int .u64 0] (pw 0) [(w1.heap.size + 1, #[.int .u64 0, .int .u64 0, .int .u64 0, .int .u64 0]), (w.heap.size, pw x), (w.heap.size + 1, pw 0)] (by simp) (by simp; omega))
  have Pc := Lib.hid (Pb.out.row (w1.heap.size + 1) #[.int .u64 0, .int .u64 0, .int .u64 0, .int .u64 0] (pw 0) [(w1.heap.size, pw 0), (w.heap.size, pw x), (w.heap.size + 1, pw 0)] (by simp) (by simp; omega))
  have B2 : Hid (Below w.heap.size w ((((w1.alloc (.cells #[.int .u64 0, .int .u64 0, .int .u64 0, .int .u64 0] 24)).alloc (.cells #[.int .u64 0, .int .u64 0, .int .u64 0, .int .u64 0] 24)).setRow w1.heap.size (pw 0)).setRow (w1.heap.size + 1) (pw 0))) := Lib.hid (below_setRow (below_setRow (B1.out.trans (Below.mono (B := w1.heap.size) (by go_grown) (by omega))) (by omega) _) (by omega) _)
  go_wp2_with (first | (refine wpList_store_row rfl 24 _ _ rfl (w1.heap.size) (pw 0) rfl rfl 24 (#[.int .u64 0, .int .u64 0, .int .u64 0, .int .u64 0]) (Pa.out.is (w1.heap.size) (#[.int .u64 0, .int .u64 0, .int .u64 0, .int .u64 0]) (by simp)) infoWord rfl (pw_one _) ?_) | (refine wpList_store_row rfl 24 _ _ rfl (w1.heap.size + 1) (pw 0) rfl rfl 24 (#[.int .u64 0, .int .u64 0, .int .u64 0, .int .u64 0]) (Pb.out.is (w1.heap.size + 1) (#[.int .u64 0, .int .u64 0, .int .u64 0, .int .u64 0]) (by simp)) infoWord rfl (pw_one _) ?_) | (refine wpList_load_row rfl 24 _ rfl (w.heap.size) rfl 24 (pw x) (0, 0) _ (Pc.out.is (w.heap.size) (pw x) (by simp)) Tryd.underlying24 rfl infoWord ?_) | (refine wpList_load_row rfl 24 _ rfl (w.heap.size + 1) rfl 24 (pw 0) (0, 0) _ (Pc.out.is (w.heap.size + 1) (pw 0) (by simp)) Tryd.underlying24 rfl infoWord ?_))
  refine (H2.out _).mono ?_
  rintro e w2 ⟨rfl, hb⟩
  have A2 := Lib.hid (Pc.out.below hb)
  have hz2 : w1.heap.size + 1 < w2.heap.size := A2.out.lt (w1.heap.size + 1) (pw 0) (by simp)
  have B3 := Lib.hid (B2.out.trans (hb.mono (by simp; omega)))
  clear hb
  have Q0 := Lib.hid ((A2.out.new #[.int .u64 0, .int .u64 0, .int .u64 0, .int .u64 0]).new #[.int .u64 0, .int .u64 0, .int .u64 0, .int .u64 0])
  have Qz : (w2.alloc (.cells #[.int .u64 0, .int .u64 0, .int .u64 0, .int .u64 0] 24)).heap.size = w2.heap.size + 1 := by simp
  have Qa : Hid (Rws [(w2.heap.size + 1, #[.int .u64 0, .int .u64 0, .int .u64 0, .int .u64 0]), (w2.heap.size, #[.int .u64 0, .int .u64 0, .int .u64 0, .int .u64 0]), (w1.heap.size + 1, pw 0), (w1.heap.size, pw 0), (w.heap.size, pw x), (w.heap.size + 1, pw 0)] ((w2.alloc (.cells #[.int .u64 0, .int .u64 0, .int .u64 0, .int .u64 0] 24)).alloc (.cells #[.int .u64 0, .int .u64 0, .int .u64 0, .int .u64 0] 24))) := Lib.hid (fun p hp => Q0.out p (by rw [Qz]; simp at hp ⊢; rcases hp with h | h | h | h | h | h <;> simp [h]))
  clear Q0 Qz
  have Qb := Lib.hid (Qa.out.row w2.heap.size #[.int .u64 0, .int .u64 0, .int .u64 0, .int .u64 0] (pw 0) [(w2.heap.size + 1, #[.int .u64 0, .int .u64 0, .int .u64 0, .int .u64 0]), (w1.heap.size + 1, pw 0), (w1.heap.size, pw 0), (w.heap.size, pw x), (w.heap.size + 1, pw 0)] (by simp) (by simp; omega))
  have Qc := Lib.hid (Qb.out.row (w2.heap.size + 1) #[.int .u64 0, .int .u64 0, .int .u64 0, .int .u64 0] (pw 0) [(w2.heap.size, pw 0), (w1.heap.size + 1, pw 0), (w1.heap.size, pw 0), (w.heap.size, pw x), (w.heap.size + 1, pw 0)] (by simp) (by simp; omega))
  have B4 : Hid (Below w.heap.size w ((((w2.alloc (.cells #[.int .u64 0, .int .u64 0, .int .u64 0, .int .u64 0] 24)).alloc (.cells #[.int .u64 0, .int .u64 0, .int .u64 0, .int .u64 0] 24)).setRow w2.heap.size (pw 0)).setRow (w2.heap.size + 1) (pw 0))) := Lib.hid (below_setRow (below_setRow (B3.out.trans (Below.mono (B := w2.heap.size) (by go_grown) (by omega))) (by omega) _) (by omega) _)
  go_wp2_with (first | (refine wpList_store_row rfl 24 _ _ rfl (w2.heap.size) (pw 0) rfl rfl 24 (#[.int .u64 0, .int .u64 0, .int .u64 0, .int .u64 0]) (Qa.out.is (w2.heap.size) (#[.int .u64 0, .int .u64 0, .int .u64 0, .int .u64 0]) (by simp)) infoWord rfl (pw_one _) ?_) | (refine wpList_store_row rfl 24 _ _ rfl (w2.heap.size + 1) (pw 0) rfl rfl 24 (#[.int .u64 0, .int .u64 0, .int .u64 0, .int .u64 0]) (Qb.out.is (w2.heap.size + 1) (#[.int .u64 0, .int .u64 0, .int .u64 0, .int .u64 0]) (by simp)) infoWord rfl (pw_one _) ?_))
  have hcl : CL6 w w1.heap.size w2.heap.size x 0 0 0 0 0 ((((w2.alloc (.cells #[.int .u64 0, .int .u64 0, .int .u64 0, .int .u64 0] 24)).alloc (.cells #[.int .u64 0, .int .u64 0, .int .u64 0, .int .u64 0] 24)).setRow w2.heap.size (pw 0)).setRow (w2.heap.size + 1) (pw 0)) := ⟨B4.out, fun p hp => Qc.out p (by simp at hp ⊢; rcases hp with h | h | h | h | h | h <;> simp [h])⟩
  clear A0 A1 A2 B0 B1 B2 B3 B4 Pa Pb Pc Qa Qb Qc
  obtain ⟨D, hD⟩ : ∃ D, w1.heap.size = D := ⟨_, rfl⟩
  obtain ⟨E, hE⟩ : ∃ E, w2.heap.size = E := ⟨_, rfl⟩
  rw [hD, hE] at hcl ⊢
  have L2 := Lib.hid (fun wx (hC : (CL6 w D E x 0 0 0 0 0) wx) => load_pw (hC.rows.is (w.heap.size) (pw x) (by simp)))
  have L3 := Lib.hid (fun wx (hC : (CL6 w D E x 0 0 0 0 0) wx) => load_pw (hC.rows.is (w.heap.size + 1) (pw 0) (by simp)))
  have L5 := Lib.hid (fun wx (hC : (CL6 w D E x 0 0 0 0 0) wx) => load_pw (hC.rows.is (D) (pw 0) (by simp)))
  have L6 := Lib.hid (fun wx (hC : (CL6 w D E x 0 0 0 0 0) wx) => load_pw (hC.rows.is (D + 1) (pw 0) (by simp)))
  have L7 := Lib.hid (fun wx (hC : (CL6 w D E x 0 0 0 0 0) wx) => load_pw (hC.rows.is (E) (pw 0) (by simp)))
  have L8 := Lib.hid (fun wx (hC : (CL6 w D E x 0 0 0 0 0) wx) => load_pw (hC.rows.is (E + 1) (pw 0) (by simp)))
  have K1C := Lib.hid (CL6.call (w := w) (D := D) (E := E) (x := x) (y := 0) (q := 0) (r := 0) (s := 0) (t := 0) (args := #[wv x, wv 0]) (v := wv 0) K1.out)
  have K2C := Lib.hid (CL6.call (w := w) (D := D) (E := E) (x := x) (y := 0) (q := 0) (r := 0) (s := 0) (t := 0) (args := #[wv x, wv 0]) (v := wv 0) K2.out)
  have K3C := Lib.hid (CL6.call (w := w) (D := D) (E := E) (x := x) (y := 0) (q := 0) (r := 0) (s := 0) (t := 0) (args := #[wv x, wv 0]) (v := wv 0) K3.out)
  have K4C := Lib.hid (CL6.call (w := w) (D := D) (E := E) (x := x) (y := 0) (q := 0) (r := 0) (s := 0) (t := 0) (args := #[wv x, wv 0]) (v := wv 0) K4.out)
  have KL := Lib.hid (CL6.call (w := w) (D := D) (E := E) (x := x) (y := 0) (q := 0) (r := 0) (s := 0) (t := 0) lives_any)
  refine wp_region_quiet (C := (CL6 w D E x 0 0 0 0 0)) (by kernel_rfl) (by kernel_rfl) hcl.drew ?_
  with_reducible refine q_load 24 (.tmp 2) (.pointer (some ⟨w.heap.size, 0, none⟩)) (wv x) rfl (by kernel_rfl) (by kernel_rfl) L2.out ?_
  with_reducible refine q_load 24 (.tmp 3) (.pointer (some ⟨w.heap.size + 1, 0, none⟩)) (wv 0) rfl (by kernel_rfl) (by kernel_rfl) L3.out ?_
  with_reducible refine q_call 25 #[wv x, wv 0] (wv 0) (by kernel_rfl) (fun _ => by kernel_rfl) K1C.out ?_
  with_reducible refine q_load 24 (.tmp 5) (.pointer (some ⟨D, 0, none⟩)) (wv 0) rfl (by kernel_rfl) (by kernel_rfl) L5.out ?_
  with_reducible refine q_bin .neq 24 _ _ 24 (wv 0) (wv 0) (.bool false) rfl (by kernel_rfl) (by kernel_rfl) (by kernel_rfl) (negx _ _ _ _) (nb_same _) ?_
  with_reducible refine q_val (.bool false) (by kernel_rfl) (fun _ _ => by kernel_rfl) ?_
  with_reducible refine q_load 24 (.tmp 2) (.pointer (some ⟨w.heap.size, 0, none⟩)) (wv x) rfl (by kernel_rfl) (by kernel_rfl) L2.out ?_
  with_reducible refine q_load 24 (.tmp 3) (.pointer (some ⟨w.heap.size + 1, 0, none⟩)) (wv 0) rfl (by kernel_rfl) (by kernel_rfl) L3.out ?_
  with_reducible refine q_call 26 #[wv x, wv 0] (wv 0) (by kernel_rfl) (fun _ => by kernel_rfl) K2C.out ?_
  with_reducible refine q_load 24 (.tmp 6) (.pointer (some ⟨D + 1, 0, none⟩)) (wv 0) rfl (by kernel_rfl) (by kernel_rfl) L6.out ?_
  with_reducible refine q_bin .neq 24 _ _ 24 (wv 0) (wv 0) (.bool false) rfl (by kernel_rfl) (by kernel_rfl) (by kernel_rfl) (negx _ _ _ _) (nb_same _) ?_
  with_reducible refine q_val (.bool false) (by kernel_rfl) (fun _ _ => by kernel_rfl) ?_
  with_reducible refine q_val (.bool false) (by kernel_rfl) (fun _ _ => by kernel_rfl) ?_
  with_reducible refine q_load 24 (.tmp 2) (.pointer (some ⟨w.heap.size, 0, none⟩)) (wv x) rfl (by kernel_rfl) (by kernel_rfl) L2.out ?_
  with_reducible refine q_load 24 (.tmp 3) (.pointer (some ⟨w.heap.size + 1, 0, none⟩)) (wv 0) rfl (by kernel_rfl) (by kernel_rfl) L3.out ?_
  with_reducible refine q_call 27 #[wv x, wv 0] (wv 0) (by kernel_rfl) (fun _ => by kernel_rfl) K3C.out ?_
  with_reducible refine q_load 24 (.tmp 7) (.pointer (some ⟨E, 0, none⟩)) (wv 0) rfl (by kernel_rfl) (by kernel_rfl) L7.out ?_
  with_reducible refine q_bin .neq 24 _ _ 24 (wv 0) (wv 0) (.bool false) rfl (by kernel_rfl) (by kernel_rfl) (by kernel_rfl) (negx _ _ _ _) (nb_same _) ?_
  with_reducible refine q_val (.bool false) (by kernel_rfl) (fun _ _ => by kernel_rfl) ?_
  with_reducible refine q_val (.bool false) (by kernel_rfl) (fun _ _ => by kernel_rfl) ?_
  with_reducible refine q_load 24 (.tmp 2) (.pointer (some ⟨w.heap.size, 0, none⟩)) (wv x) rfl (by kernel_rfl) (by kernel_rfl) L2.out ?_
  with_reducible refine q_load 24 (.tmp 3) (.pointer (some ⟨w.heap.size + 1, 0, none⟩)) (wv 0) rfl (by kernel_rfl) (by kernel_rfl) L3.out ?_
  with_reducible refine q_call 28 #[wv x, wv 0] (wv 0) (by kernel_rfl) (fun _ => by kernel_rfl) K4C.out ?_
  with_reducible refine q_load 24 (.tmp 8) (.pointer (some ⟨E + 1, 0, none⟩)) (wv 0) rfl (by kernel_rfl) (by kernel_rfl) L8.out ?_
  with_reducible refine q_bin .neq 24 _ _ 24 (wv 0) (wv 0) (.bool false) rfl (by kernel_rfl) (by kernel_rfl) (by kernel_rfl) (negx _ _ _ _) (nb_same _) ?_
  with_reducible refine q_val (.bool false) (by kernel_rfl) (fun _ _ => by kernel_rfl) ?_
  with_reducible refine wpQuiet_nil ?_
  intro wx hC
  generalize hA : Act.put _ _ _ = A
  have hF : A = ({tmps := #[.agg (pw x), .agg (pw 0), .pointer (some ⟨w.heap.size, 0, none⟩), .pointer (some ⟨w.heap.size + 1, 0, none⟩), .bool false, .pointer (some ⟨D, 0, none⟩), .pointer (some ⟨D + 1, 0, none⟩), .pointer (some ⟨E, 0, none⟩), .pointer (some ⟨E + 1, 0, none⟩), .tuple #[.agg (pw 0), .agg (pw 0)], .agg (pw x), .agg (pw 0), .tuple #[.agg (pw 0), .agg (pw 0)], .agg (pw 0), .agg (pw 0), .tuple #[.agg (pw 0), .agg (pw 0)], .agg (pw x), .agg (pw 0), .tuple #[.agg (pw 0), .agg (pw 0)], .agg (pw 0), .agg (pw 0), wv x, wv 0, wv 0, wv 0, .bool false, .bool false, wv x, wv 0, wv 0, wv 0, .bool false, .bool false, .bool false, wv x, wv 0, wv 0, wv 0, .bool false, .bool false, .bool false, wv x, wv 0, wv 0, wv 0, .bool false, .bool false, undef, undef, undef, undef, undef, undef, undef, undef, undef, undef, undef, undef, undef, undef, undef, undef, undef, undef, undef, undef, undef, undef, undef, undef, undef, undef, undef, undef, undef, undef, undef, undef, undef, undef, undef, undef, undef, undef, undef, undef, undef, undef, undef, undef, undef, undef, undef, undef, undef], defers := []} : Act) := by subst hA; kernel_rfl
  clear hA
  subst hF
  have HC := Lib.hid hC; clear hC
  have HCR := Lib.hid HC.out.rows
  have hzf : ∀ w, (binOp BinOp.eql 24 (.agg (pw 0)) (.agg #[.int .u64 0, .int .u64 0, .int .u64 0, .int .u64 0])).run Tryd.prog w = .ok (.bool true) w := fun w => eqz_run 0 true rfl w
  have hzg : ∀ (o1 o2 : Operand) w, (eqGuard BinOp.eql 24 o1 o2 (.agg (pw 0)) (.agg #[.int .u64 0, .int .u64 0, .int .u64 0, .int .u64 0])).run Tryd.prog w = .ok () w := fun o1 o2 w => eqz_guard 0 o1 o2 w
  go_upto_region 6 with ((refine wpList_load_row rfl 24 _ rfl (w.heap.size + 1) rfl 24 (pw 0) (0, 0) _ (HCR.out.is (w.heap.size + 1) (pw 0) (by simp)) Tryd.underlying24 rfl infoWord ?_))
  refine q_region (C := (CL6 w D E x 0 0 0 0 0)) HC.out ?_
  with_reducible refine q_load 24 (.tmp 5) (.pointer (some ⟨D, 0, none⟩)) (wv 0) rfl (by kernel_rfl) (by kernel_rfl) L5.out ?_
  with_reducible refine q_load 24 (.tmp 3) (.pointer (some ⟨w.heap.size + 1, 0, none⟩)) (wv 0) rfl (by kernel_rfl) (by kernel_rfl) L3.out ?_
  with_reducible refine q_bin .eql 24 _ _ 24 (wv 0) (wv 0) (.bool true) rfl (by kernel_rfl) (by kernel_rfl) (by kernel_rfl) (eqg_any _ _ _) (eqb_any _) ?_
  with_reducible refine q_val (.bool true) (by kernel_rfl) (fun _ _ => by kernel_rfl) ?_
  with_reducible refine q_load 24 (.tmp 6) (.pointer (some ⟨D + 1, 0, none⟩)) (wv 0) rfl (by kernel_rfl) (by kernel_rfl) L6.out ?_
  with_reducible refine q_load 24 (.tmp 3) (.pointer (some ⟨w.heap.size + 1, 0, none⟩)) (wv 0) rfl (by kernel_rfl) (by kernel_rfl) L3.out ?_
  with_reducible refine q_bin .eql 24 _ _ 24 (wv 0) (wv 0) (.bool true) rfl (by kernel_rfl) (by kernel_rfl) (by kernel_rfl) (eqg_any _ _ _) (eqb_any _) ?_
  with_reducible refine q_val (.bool true) (by kernel_rfl) (fun _ _ => by kernel_rfl) ?_
  with_reducible refine q_val (.bool true) (by kernel_rfl) (fun _ _ => by kernel_rfl) ?_
  with_reducible refine q_load 24 (.tmp 7) (.pointer (some ⟨E, 0, none⟩)) (wv 0) rfl (by kernel_rfl) (by kernel_rfl) L7.out ?_
  with_reducible refine q_load 24 (.tmp 3) (.pointer (some ⟨w.heap.size + 1, 0, none⟩)) (wv 0) rfl (by kernel_rfl) (by kernel_rfl) L3.out ?_
  with_reducible refine q_bin .eql 24 _ _ 24 (wv 0) (wv 0) (.bool true) rfl (by kernel_rfl) (by kernel_rfl) (by kernel_rfl) (eqg_any _ _ _) (eqb_any _) ?_
  with_reducible refine q_val (.bool true) (by kernel_rfl) (fun _ _ => by kernel_rfl) ?_
  with_reducible refine q_val (.bool true) (by kernel_rfl) (fun _ _ => by kernel_rfl) ?_
  with_reducible refine q_load 24 (.tmp 8) (.pointer (some ⟨E + 1, 0, none⟩)) (wv 0) rfl (by kernel_rfl) (by kernel_rfl) L8.out ?_
  with_reducible refine q_load 24 (.tmp 3) (.pointer (some ⟨w.heap.size + 1, 0, none⟩)) (wv 0) rfl (by kernel_rfl) (by kernel_rfl) L3.out ?_
  with_reducible refine q_bin .eql 24 _ _ 24 (wv 0) (wv 0) (.bool true) rfl (by kernel_rfl) (by kernel_rfl) (by kernel_rfl) (eqg_any _ _ _) (eqb_any _) ?_
  with_reducible refine q_val (.bool true) (by kernel_rfl) (fun _ _ => by kernel_rfl) ?_
  with_reducible refine q_val (.bool true) (by kernel_rfl) (fun _ _ => by kernel_rfl) ?_
  with_reducible refine q_call 19 #[] (.bool true) (by kernel_rfl) (fun _ => by kernel_rfl) KL.out ?_
  with_reducible refine q_val (.bool true) (by kernel_rfl) (fun _ _ => by kernel_rfl) ?_
  with_reducible refine q_val (.bool true) (by kernel_rfl) (fun _ _ => by kernel_rfl) ?_
  with_reducible refine wpQuiet_nil ?_
  intro wy hC
  have hB := hC.old
  clear hC
  generalize hA : Act.put _ _ _ = A
  have h6 : A.tmps.getD 4 undef = Value.bool true := by subst hA; kernel_rfl
  have hd : A.defers = [] := by subst hA; kernel_rfl
  clear hA
  go_wp2
  (try simp only [Exit.inBlock, Exit.then])
  refine bodyPost_ret (v := .bool true) (by rw [results_tmp rfl _ _ _, h6]) hd ⟨rfl, hB⟩

set_option maxRecDepth 100000 in
set_option maxHeartbeats 4000000 in
theorem divides_some (x y q r s t : Nat) (hy : ¬ y % 115792089237316195423570985008687907853269984665640564039457584007913129639936 = 0) (w : World)
    (h1 : ∀ w, Calls Tryd.prog 23 #[.agg (pw x), .agg (pw y)] w fun e w' => e = .returned (.tuple #[.agg (pw q), .agg (pw r)]) ∧ Below w.heap.size w w')
    (h2 : ∀ w, Calls Tryd.prog 24 #[.agg (pw x), .agg (pw y)] w fun e w' => e = .returned (.tuple #[.agg (pw s), .agg (pw t)]) ∧ Below w.heap.size w w')
    (k1 : ∀ w, Calls Tryd.prog 25 #[wv x, wv y] w fun e w' => e = .returned (wv q) ∧ Below w.heap.size w w')
    (k2 : ∀ w, Calls Tryd.prog 26 #[wv x, wv y] w fun e w' => e = .returned (wv r) ∧ Below w.heap.size w w')
    (k3 : ∀ w, Calls Tryd.prog 27 #[wv x, wv y] w fun e w' => e = .returned (wv s) ∧ Below w.heap.size w w')
    (k4 : ∀ w, Calls Tryd.prog 28 #[wv x, wv y] w fun e w' => e = .returned (wv t) ∧ Below w.heap.size w w')
    (k5 : ∀ w, Calls Tryd.prog 17 #[wv q, wv y] w fun e w' => e = .returned (wv (q * y)) ∧ Below w.heap.size w w')
    (k6 : ∀ w, Calls Tryd.prog 13 #[wv (q * y), wv r] w fun e w' => e = .returned (wv x) ∧ Below w.heap.size w w')
    (k7 : ∀ w, Calls Tryd.prog 22 #[wv r, wv y] w fun e w' => e = .returned (.int .i64 (-1)) ∧ Below w.heap.size w w')
    (k8 : ∀ w, Calls Tryd.prog 17 #[wv s, wv y] w fun e w' => e = .returned (wv (s * y)) ∧ Below w.heap.size w w')
    (k9 : ∀ w, Calls Tryd.prog 13 #[wv (s * y), wv t] w fun e w' => e = .returned (wv x) ∧ Below w.heap.size w w') :
    Calls Tryd.prog 5 #[.agg (pw x), .agg (pw y)] w fun e w' => e = .returned (.bool true) ∧ Below w.heap.size w w' := by
  have H1 := Lib.hid h1; clear h1
  have H2 := Lib.hid h2; clear h2
  have K1 := Lib.hid k1; clear k1
  have K2 := Lib.hid k2; clear k2
  have K3 := Lib.hid k3; clear k3
  have K4 := Lib.hid k4; clear k4
  have K5 := Lib.hid k5; clear k5
  have K6 := Lib.hid k6; clear k6
  have K7 := Lib.hid k7; clear k7
  have K8 := Lib.hid k8; clear k8
  have K9 := Lib.hid k9; clear k9
  have h4 := heap2 w (.cells (pw x) 24) (.cells (pw y) 24)
  have A0 : Hid (Rws [(w.heap.size, pw x), (w.heap.size + 1, pw y)] ((w.alloc (.cells (pw x) 24)).alloc (.cells (pw y) 24))) := Lib.hid (by
    intro p hp
    simp only [List.mem_cons, List.not_mem_nil, or_false] at hp
    rcases hp with rfl | rfl
    · exact h4.1
    · exact h4.2)
  clear h4
  have B0 : Hid (Below w.heap.size w ((w.alloc (.cells (pw x) 24)).alloc (.cells (pw y) 24))) := Lib.hid (by go_grown)
  go_enter Tryd.func5, Tryd.ntmps5
  go_wp2_with (first | (refine wpList_load_row rfl 24 _ rfl (w.heap.size) rfl 24 (pw x) (0, 0) _ (A0.out.is (w.heap.size) (pw x) (by simp)) Tryd.underlying24 rfl infoWord ?_) | (refine wpList_load_row rfl 24 _ rfl (w.heap.size + 1) rfl 24 (pw y) (0, 0) _ (A0.out.is (w.heap.size + 1) (pw y) (by simp)) Tryd.underlying24 rfl infoWord ?_))
  refine (H1.out _).mono ?_
  rintro e w1 ⟨rfl, hb⟩
  have A1 := Lib.hid (A0.out.below hb)
  have B1 := Lib.hid (B0.out.trans (hb.mono (by simp; omega)))
  have hl1 := A1.out.lt (w.heap.size + 1) (pw y) (by simp)
  clear hb
  have P0 := Lib.hid ((A1.out.new #[.int .u64 0, .int .u64 0, .int .u64 0, .int .u64 0]).new #[.int .u64 0, .int .u64 0, .int .u64 0, .int .u64 0])
  have Pz : (w1.alloc (.cells #[.int .u64 0, .int .u64 0, .int .u64 0, .int .u64 0] 24)).heap.size = w1.heap.size + 1 := by simp
  have Pa : Hid (Rws [(w1.heap.size + 1, #[.int .u64 0, .int .u64 0, .int .u64 0, .int .u64 0]), (w1.heap.size, #[.int .u64 0, .int .u64 0, .int .u64 0, .int .u64 0]), (w.heap.size, pw x), (w.heap.size + 1, pw y)] ((w1.alloc (.cells #[.int .u64 0, .int .u64 0, .int .u64 0, .int .u64 0] 24)).alloc (.cells #[.int .u64 0, .int .u64 0, .int .u64 0, .int .u64 0] 24))) := Lib.hid (fun p hp => P0.out p (by rw [Pz]; simp at hp ⊢; rcases hp with h | h | h | h <;> simp [h]))
  clear P0 Pz
  have Pb := Lib.hid (Pa.out.row w1.heap.size #[.int .u64 0, .int .u64 0, .int .u64 0, .int .u64 0] (pw q) [(w1.heap.size + 1, #[.int .u64 0, .int .u64 0, .int .u64 0, .int .u64 0]), (w.heap.size, pw x), (w.heap.size + 1, pw y)] (by simp) (by simp; omega))
  have Pc := Lib.hid (Pb.out.row (w1.heap.size + 1) #[.int .u64 0, .int .u64 0, .int .u64 0, .int .u64 0] (pw r) [(w1.heap.size, pw q), (w.heap.size, pw x), (w.heap.size + 1, pw y)] (by simp) (by simp; omega))
  have B2 : Hid (Below w.heap.size w ((((w1.alloc (.cells #[.int .u64 0, .int .u64 0, .int .u64 0, .int .u64 0] 24)).alloc (.cells #[.int .u64 0, .int .u64 0, .int .u64 0, .int .u64 0] 24)).setRow w1.heap.size (pw q)).setRow (w1.heap.size + 1) (pw r))) := Lib.hid (below_setRow (below_setRow (B1.out.trans (Below.mono (B := w1.heap.size) (by go_grown) (by omega))) (by omega) _) (by omega) _)
  go_wp2_with (first | (refine wpList_store_row rfl 24 _ _ rfl (w1.heap.size) (pw q) rfl rfl 24 (#[.int .u64 0, .int .u64 0, .int .u64 0, .int .u64 0]) (Pa.out.is (w1.heap.size) (#[.int .u64 0, .int .u64 0, .int .u64 0, .int .u64 0]) (by simp)) infoWord rfl (pw_one _) ?_) | (refine wpList_store_row rfl 24 _ _ rfl (w1.heap.size + 1) (pw r) rfl rfl 24 (#[.int .u64 0, .int .u64 0, .int .u64 0, .int .u64 0]) (Pb.out.is (w1.heap.size + 1) (#[.int .u64 0, .int .u64 0, .int .u64 0, .int .u64 0]) (by simp)) infoWord rfl (pw_one _) ?_) | (refine wpList_load_row rfl 24 _ rfl (w.heap.size) rfl 24 (pw x) (0, 0) _ (Pc.out.is (w.heap.size) (pw x) (by simp)) Tryd.underlying24 rfl infoWord ?_) | (refine wpList_load_row rfl 24 _ rfl (w.heap.size + 1) rfl 24 (pw y) (0, 0) _ (Pc.out.is (w.heap.size + 1) (pw y) (by simp)) Tryd.underlying24 rfl infoWord ?_))
  refine (H2.out _).mono ?_
  rintro e w2 ⟨rfl, hb⟩
  have A2 := Lib.hid (Pc.out.below hb)
  have hz2 : w1.heap.size + 1 < w2.heap.size := A2.out.lt (w1.heap.size + 1) (pw r) (by simp)
  have B3 := Lib.hid (B2.out.trans (hb.mono (by simp; omega)))
  clear hb
  have Q0 := Lib.hid ((A2.out.new #[.int .u64 0, .int .u64 0, .int .u64 0, .int .u64 0]).new #[.int .u64 0, .int .u64 0, .int .u64 0, .int .u64 0])
  have Qz : (w2.alloc (.cells #[.int .u64 0, .int .u64 0, .int .u64 0, .int .u64 0] 24)).heap.size = w2.heap.size + 1 := by simp
  have Qa : Hid (Rws [(w2.heap.size + 1, #[.int .u64 0, .int .u64 0, .int .u64 0, .int .u64 0]), (w2.heap.size, #[.int .u64 0, .int .u64 0, .int .u64 0, .int .u64 0]), (w1.heap.size + 1, pw r), (w1.heap.size, pw q), (w.heap.size, pw x), (w.heap.size + 1, pw y)] ((w2.alloc (.cells #[.int .u64 0, .int .u64 0, .int .u64 0, .int .u64 0] 24)).alloc (.cells #[.int .u64 0, .int .u64 0, .int .u64 0, .int .u64 0] 24))) := Lib.hid (fun p hp => Q0.out p (by rw [Qz]; simp at hp ⊢; rcases hp with h | h | h | h | h | h <;> simp [h]))
  clear Q0 Qz
  have Qb := Lib.hid (Qa.out.row w2.heap.size #[.int .u64 0, .int .u64 0, .int .u64 0, .int .u64 0] (pw s) [(w2.heap.size + 1, #[.int .u64 0, .int .u64 0, .int .u64 0, .int .u64 0]), (w1.heap.size + 1, pw r), (w1.heap.size, pw q), (w.heap.size, pw x), (w.heap.size + 1, pw y)] (by simp) (by simp; omega))
  have Qc := Lib.hid (Qb.out.row (w2.heap.size + 1) #[.int .u64 0, .int .u64 0, .int .u64 0, .int .u64 0] (pw t) [(w2.heap.size, pw s), (w1.heap.size + 1, pw r), (w1.heap.size, pw q), (w.heap.size, pw x), (w.heap.size + 1, pw y)] (by simp) (by simp; omega))
  have B4 : Hid (Below w.heap.size w ((((w2.alloc (.cells #[.int .u64 0, .int .u64 0, .int .u64 0, .int .u64 0] 24)).alloc (.cells #[.int .u64 0, .int .u64 0, .int .u64 0, .int .u64 0] 24)).setRow w2.heap.size (pw s)).setRow (w2.heap.size + 1) (pw t))) := Lib.hid (below_setRow (below_setRow (B3.out.trans (Below.mono (B := w2.heap.size) (by go_grown) (by omega))) (by omega) _) (by omega) _)
  go_wp2_with (first | (refine wpList_store_row rfl 24 _ _ rfl (w2.heap.size) (pw s) rfl rfl 24 (#[.int .u64 0, .int .u64 0, .int .u64 0, .int .u64 0]) (Qa.out.is (w2.heap.size) (#[.int .u64 0, .int .u64 0, .int .u64 0, .int .u64 0]) (by simp)) infoWord rfl (pw_one _) ?_) | (refine wpList_store_row rfl 24 _ _ rfl (w2.heap.size + 1) (pw t) rfl rfl 24 (#[.int .u64 0, .int .u64 0, .int .u64 0, .int .u64 0]) (Qb.out.is (w2.heap.size + 1) (#[.int .u64 0, .int .u64 0, .int .u64 0, .int .u64 0]) (by simp)) infoWord rfl (pw_one _) ?_))
  have hcl : CL6 w w1.heap.size w2.heap.size x y q r s t ((((w2.alloc (.cells #[.int .u64 0, .int .u64 0, .int .u64 0, .int .u64 0] 24)).alloc (.cells #[.int .u64 0, .int .u64 0, .int .u64 0, .int .u64 0] 24)).setRow w2.heap.size (pw s)).setRow (w2.heap.size + 1) (pw t)) := ⟨B4.out, fun p hp => Qc.out p (by simp at hp ⊢; rcases hp with h | h | h | h | h | h <;> simp [h])⟩
  clear A0 A1 A2 B0 B1 B2 B3 B4 Pa Pb Pc Qa Qb Qc
  obtain ⟨D, hD⟩ : ∃ D, w1.heap.size = D := ⟨_, rfl⟩
  obtain ⟨E, hE⟩ : ∃ E, w2.heap.size = E := ⟨_, rfl⟩
  rw [hD, hE] at hcl ⊢
  have L2 := Lib.hid (fun wx (hC : (CL6 w D E x y q r s t) wx) => load_pw (hC.rows.is (w.heap.size) (pw x) (by simp)))
  have L3 := Lib.hid (fun wx (hC : (CL6 w D E x y q r s t) wx) => load_pw (hC.rows.is (w.heap.size + 1) (pw y) (by simp)))
  have L5 := Lib.hid (fun wx (hC : (CL6 w D E x y q r s t) wx) => load_pw (hC.rows.is (D) (pw q) (by simp)))
  have L6 := Lib.hid (fun wx (hC : (CL6 w D E x y q r s t) wx) => load_pw (hC.rows.is (D + 1) (pw r) (by simp)))
  have L7 := Lib.hid (fun wx (hC : (CL6 w D E x y q r s t) wx) => load_pw (hC.rows.is (E) (pw s) (by simp)))
  have L8 := Lib.hid (fun wx (hC : (CL6 w D E x y q r s t) wx) => load_pw (hC.rows.is (E + 1) (pw t) (by simp)))
  have K1C := Lib.hid (CL6.call (w := w) (D := D) (E := E) (x := x) (y := y) (q := q) (r := r) (s := s) (t := t) (args := #[wv x, wv y]) (v := wv q) K1.out)
  have K2C := Lib.hid (CL6.call (w := w) (D := D) (E := E) (x := x) (y := y) (q := q) (r := r) (s := s) (t := t) (args := #[wv x, wv y]) (v := wv r) K2.out)
  have K3C := Lib.hid (CL6.call (w := w) (D := D) (E := E) (x := x) (y := y) (q := q) (r := r) (s := s) (t := t) (args := #[wv x, wv y]) (v := wv s) K3.out)
  have K4C := Lib.hid (CL6.call (w := w) (D := D) (E := E) (x := x) (y := y) (q := q) (r := r) (s := s) (t := t) (args := #[wv x, wv y]) (v := wv t) K4.out)
  have K5C := Lib.hid (CL6.call (w := w) (D := D) (E := E) (x := x) (y := y) (q := q) (r := r) (s := s) (t := t) (args := #[wv q, wv y]) (v := wv (q * y)) K5.out)
  have K6C := Lib.hid (CL6.call (w := w) (D := D) (E := E) (x := x) (y := y) (q := q) (r := r) (s := s) (t := t) (args := #[wv (q * y), wv r]) (v := wv x) K6.out)
  have K7C := Lib.hid (CL6.call (w := w) (D := D) (E := E) (x := x) (y := y) (q := q) (r := r) (s := s) (t := t) (args := #[wv r, wv y]) (v := .int .i64 (-1)) K7.out)
  have K8C := Lib.hid (CL6.call (w := w) (D := D) (E := E) (x := x) (y := y) (q := q) (r := r) (s := s) (t := t) (args := #[wv s, wv y]) (v := wv (s * y)) K8.out)
  have K9C := Lib.hid (CL6.call (w := w) (D := D) (E := E) (x := x) (y := y) (q := q) (r := r) (s := s) (t := t) (args := #[wv (s * y), wv t]) (v := wv x) K9.out)
  have KL := Lib.hid (CL6.call (w := w) (D := D) (E := E) (x := x) (y := y) (q := q) (r := r) (s := s) (t := t) lives_any)
  refine wp_region_quiet (C := (CL6 w D E x y q r s t)) (by kernel_rfl) (by kernel_rfl) hcl.drew ?_
  with_reducible refine q_load 24 (.tmp 2) (.pointer (some ⟨w.heap.size, 0, none⟩)) (wv x) rfl (by kernel_rfl) (by kernel_rfl) L2.out ?_
  with_reducible refine q_load 24 (.tmp 3) (.pointer (some ⟨w.heap.size + 1, 0, none⟩)) (wv y) rfl (by kernel_rfl) (by kernel_rfl) L3.out ?_
  with_reducible refine q_call 25 #[wv x, wv y] (wv q) (by kernel_rfl) (fun _ => by kernel_rfl) K1C.out ?_
  with_reducible refine q_load 24 (.tmp 5) (.pointer (some ⟨D, 0, none⟩)) (wv q) rfl (by kernel_rfl) (by kernel_rfl) L5.out ?_
  with_reducible refine q_bin .neq 24 _ _ 24 (wv q) (wv q) (.bool false) rfl (by kernel_rfl) (by kernel_rfl) (by kernel_rfl) (negx _ _ _ _) (nb_same _) ?_
  with_reducible refine q_val (.bool false) (by kernel_rfl) (fun _ _ => by kernel_rfl) ?_
  with_reducible refine q_load 24 (.tmp 2) (.pointer (some ⟨w.heap.size, 0, none⟩)) (wv x) rfl (by kernel_rfl) (by kernel_rfl) L2.out ?_
  with_reducible refine q_load 24 (.tmp 3) (.pointer (some ⟨w.heap.size + 1, 0, none⟩)) (wv y) rfl (by kernel_rfl) (by kernel_rfl) L3.out ?_
  with_reducible refine q_call 26 #[wv x, wv y] (wv r) (by kernel_rfl) (fun _ => by kernel_rfl) K2C.out ?_
  with_reducible refine q_load 24 (.tmp 6) (.pointer (some ⟨D + 1, 0, none⟩)) (wv r) rfl (by kernel_rfl) (by kernel_rfl) L6.out ?_
  with_reducible refine q_bin .neq 24 _ _ 24 (wv r) (wv r) (.bool false) rfl (by kernel_rfl) (by kernel_rfl) (by kernel_rfl) (negx _ _ _ _) (nb_same _) ?_
  with_reducible refine q_val (.bool false) (by kernel_rfl) (fun _ _ => by kernel_rfl) ?_
  with_reducible refine q_val (.bool false) (by kernel_rfl) (fun _ _ => by kernel_rfl) ?_
  with_reducible refine q_load 24 (.tmp 2) (.pointer (some ⟨w.heap.size, 0, none⟩)) (wv x) rfl (by kernel_rfl) (by kernel_rfl) L2.out ?_
  with_reducible refine q_load 24 (.tmp 3) (.pointer (some ⟨w.heap.size + 1, 0, none⟩)) (wv y) rfl (by kernel_rfl) (by kernel_rfl) L3.out ?_
  with_reducible refine q_call 27 #[wv x, wv y] (wv s) (by kernel_rfl) (fun _ => by kernel_rfl) K3C.out ?_
  with_reducible refine q_load 24 (.tmp 7) (.pointer (some ⟨E, 0, none⟩)) (wv s) rfl (by kernel_rfl) (by kernel_rfl) L7.out ?_
  with_reducible refine q_bin .neq 24 _ _ 24 (wv s) (wv s) (.bool false) rfl (by kernel_rfl) (by kernel_rfl) (by kernel_rfl) (negx _ _ _ _) (nb_same _) ?_
  with_reducible refine q_val (.bool false) (by kernel_rfl) (fun _ _ => by kernel_rfl) ?_
  with_reducible refine q_val (.bool false) (by kernel_rfl) (fun _ _ => by kernel_rfl) ?_
  with_reducible refine q_load 24 (.tmp 2) (.pointer (some ⟨w.heap.size, 0, none⟩)) (wv x) rfl (by kernel_rfl) (by kernel_rfl) L2.out ?_
  with_reducible refine q_load 24 (.tmp 3) (.pointer (some ⟨w.heap.size + 1, 0, none⟩)) (wv y) rfl (by kernel_rfl) (by kernel_rfl) L3.out ?_
  with_reducible refine q_call 28 #[wv x, wv y] (wv t) (by kernel_rfl) (fun _ => by kernel_rfl) K4C.out ?_
  with_reducible refine q_load 24 (.tmp 8) (.pointer (some ⟨E + 1, 0, none⟩)) (wv t) rfl (by kernel_rfl) (by kernel_rfl) L8.out ?_
  with_reducible refine q_bin .neq 24 _ _ 24 (wv t) (wv t) (.bool false) rfl (by kernel_rfl) (by kernel_rfl) (by kernel_rfl) (negx _ _ _ _) (nb_same _) ?_
  with_reducible refine q_val (.bool false) (by kernel_rfl) (fun _ _ => by kernel_rfl) ?_
  with_reducible refine wpQuiet_nil ?_
  intro wx hC
  generalize hA : Act.put _ _ _ = A
  have hF : A = ({tmps := #[.agg (pw x), .agg (pw y), .pointer (some ⟨w.heap.size, 0, none⟩), .pointer (some ⟨w.heap.size + 1, 0, none⟩), .bool false, .pointer (some ⟨D, 0, none⟩), .pointer (some ⟨D + 1, 0, none⟩), .pointer (some ⟨E, 0, none⟩), .pointer (some ⟨E + 1, 0, none⟩), .tuple #[.agg (pw q), .agg (pw r)], .agg (pw x), .agg (pw y), .tuple #[.agg (pw q), .agg (pw r)], .agg (pw q), .agg (pw r), .tuple #[.agg (pw s), .agg (pw t)], .agg (pw x), .agg (pw y), .tuple #[.agg (pw s), .agg (pw t)], .agg (pw s), .agg (pw t), wv x, wv y, wv q, wv q, .bool false, .bool false, wv x, wv y, wv r, wv r, .bool false, .bool false, .bool false, wv x, wv y, wv s, wv s, .bool false, .bool false, .bool false, wv x, wv y, wv t, wv t, .bool false, .bool false, undef, undef, undef, undef, undef, undef, undef, undef, undef, undef, undef, undef, undef, undef, undef, undef, undef, undef, undef, undef, undef, undef, undef, undef, undef, undef, undef, undef, undef, undef, undef, undef, undef, undef, undef, undef, undef, undef, undef, undef, undef, undef, undef, undef, undef, undef, undef, undef, undef], defers := []} : Act) := by subst hA; kernel_rfl
  clear hA
  subst hF
  have HC := Lib.hid hC; clear hC
  have HCR := Lib.hid HC.out.rows
  have hzf : ∀ w, (binOp BinOp.eql 24 (.agg (pw y)) (.agg #[.int .u64 0, .int .u64 0, .int .u64 0, .int .u64 0])).run Tryd.prog w = .ok (.bool false) w := fun w => eqz_run y false (decide_eq_false hy) w
  have hzg : ∀ (o1 o2 : Operand) w, (eqGuard BinOp.eql 24 o1 o2 (.agg (pw y)) (.agg #[.int .u64 0, .int .u64 0, .int .u64 0, .int .u64 0])).run Tryd.prog w = .ok () w := fun o1 o2 w => eqz_guard y o1 o2 w
  go_wp2_with (refine wpList_load_row rfl 24 _ rfl (w.heap.size + 1) rfl 24 (pw y) (0, 0) _ (HCR.out.is (w.heap.size + 1) (pw y) (by simp)) Tryd.underlying24 rfl infoWord ?_)
  refine wp_region_quiet (C := (CL6 w D E x y q r s t)) (by kernel_rfl) (by kernel_rfl) HC.out.drew ?_
  with_reducible refine q_load 24 (.tmp 5) (.pointer (some ⟨D, 0, none⟩)) (wv q) rfl (by kernel_rfl) (by kernel_rfl) L5.out ?_
  with_reducible refine q_load 24 (.tmp 3) (.pointer (some ⟨w.heap.size + 1, 0, none⟩)) (wv y) rfl (by kernel_rfl) (by kernel_rfl) L3.out ?_
  with_reducible refine q_call 17 #[wv q, wv y] (wv (q * y)) (by kernel_rfl) (fun _ => by kernel_rfl) K5C.out ?_
  with_reducible refine q_load 24 (.tmp 6) (.pointer (some ⟨D + 1, 0, none⟩)) (wv r) rfl (by kernel_rfl) (by kernel_rfl) L6.out ?_
  with_reducible refine q_call 13 #[wv (q * y), wv r] (wv x) (by kernel_rfl) (fun _ => by kernel_rfl) K6C.out ?_
  with_reducible refine q_load 24 (.tmp 2) (.pointer (some ⟨w.heap.size, 0, none⟩)) (wv x) rfl (by kernel_rfl) (by kernel_rfl) L2.out ?_
  with_reducible refine q_bin .eql 24 _ _ 24 (wv x) (wv x) (.bool true) rfl (by kernel_rfl) (by kernel_rfl) (by kernel_rfl) (eqg_any _ _ _) (eqb_any _) ?_
  with_reducible refine q_val (.bool true) (by kernel_rfl) (fun _ _ => by kernel_rfl) ?_
  with_reducible refine q_load 24 (.tmp 6) (.pointer (some ⟨D + 1, 0, none⟩)) (wv r) rfl (by kernel_rfl) (by kernel_rfl) L6.out ?_
  with_reducible refine q_load 24 (.tmp 3) (.pointer (some ⟨w.heap.size + 1, 0, none⟩)) (wv y) rfl (by kernel_rfl) (by kernel_rfl) L3.out ?_
  with_reducible refine q_call 22 #[wv r, wv y] (.int .i64 (-1)) (by kernel_rfl) (fun _ => by kernel_rfl) K7C.out ?_
  with_reducible refine q_bin .lss 3 _ _ 3 (.int .i64 (-1)) (.int .i64 0) (.bool true) rfl (by kernel_rfl) (by kernel_rfl) (by kernel_rfl) (lssg _ _) lssm ?_
  with_reducible refine q_val (.bool true) (by kernel_rfl) (fun _ _ => by kernel_rfl) ?_
  with_reducible refine q_val (.bool true) (by kernel_rfl) (fun _ _ => by kernel_rfl) ?_
  with_reducible refine q_load 24 (.tmp 7) (.pointer (some ⟨E, 0, none⟩)) (wv s) rfl (by kernel_rfl) (by kernel_rfl) L7.out ?_
  with_reducible refine q_load 24 (.tmp 3) (.pointer (some ⟨w.heap.size + 1, 0, none⟩)) (wv y) rfl (by kernel_rfl) (by kernel_rfl) L3.out ?_
  with_reducible refine q_call 17 #[wv s, wv y] (wv (s * y)) (by kernel_rfl) (fun _ => by kernel_rfl) K8C.out ?_
  with_reducible refine q_load 24 (.tmp 8) (.pointer (some ⟨E + 1, 0, none⟩)) (wv t) rfl (by kernel_rfl) (by kernel_rfl) L8.out ?_
  with_reducible refine q_call 13 #[wv (s * y), wv t] (wv x) (by kernel_rfl) (fun _ => by kernel_rfl) K9C.out ?_
  with_reducible refine q_load 24 (.tmp 2) (.pointer (some ⟨w.heap.size, 0, none⟩)) (wv x) rfl (by kernel_rfl) (by kernel_rfl) L2.out ?_
  with_reducible refine q_bin .eql 24 _ _ 24 (wv x) (wv x) (.bool true) rfl (by kernel_rfl) (by kernel_rfl) (by kernel_rfl) (eqg_any _ _ _) (eqb_any _) ?_
  with_reducible refine q_val (.bool true) (by kernel_rfl) (fun _ _ => by kernel_rfl) ?_
  with_reducible refine q_val (.bool true) (by kernel_rfl) (fun _ _ => by kernel_rfl) ?_
  with_reducible refine q_call 19 #[] (.bool true) (by kernel_rfl) (fun _ => by kernel_rfl) KL.out ?_
  with_reducible refine q_val (.bool true) (by kernel_rfl) (fun _ _ => by kernel_rfl) ?_
  with_reducible refine q_val (.bool true) (by kernel_rfl) (fun _ _ => by kernel_rfl) ?_
  with_reducible refine wpQuiet_nil ?_
  intro wy hC
  have hB := hC.old
  clear hC
  generalize hA : Act.put _ _ _ = A
  have h6 : A.tmps.getD 4 undef = Value.bool true := by subst hA; kernel_rfl
  have hd : A.defers = [] := by subst hA; kernel_rfl
  clear hA
  go_wp2
  (try simp only [Exit.inBlock, Exit.then])
  refine bodyPost_ret (v := .bool true) (by rw [results_tmp rfl _ _ _, h6]) hd ⟨rfl, hB⟩

theorem divides_any (x y : Nat) (w : World) : Calls Tryd.prog 5 #[wv x, wv y] w fun e w' => e = .returned (.bool true) ∧ Below w.heap.size w w' := by
  by_cases hy : y % 115792089237316195423570985008687907853269984665640564039457584007913129639936 = 0
  · rw [show wv y = wv 0 from wv_congr (by rw [hy])]
    have e1 : quoV (x % 115792089237316195423570985008687907853269984665640564039457584007913129639936) 0 = 0 := rfl
    have e2 : remV (x % 115792089237316195423570985008687907853269984665640564039457584007913129639936) 0 = 0 := rfl
    have hsz : szV 0 % 115792089237316195423570985008687907853269984665640564039457584007913129639936 = 0 := rfl
    have e3 : quoV (szV x % 115792089237316195423570985008687907853269984665640564039457584007913129639936) (szV 0) = 0 := by unfold quoV; rw [if_pos hsz]
    have e4 : remV (szV x % 115792089237316195423570985008687907853269984665640564039457584007913129639936) (szV 0) = 0 := by unfold remV; rw [if_pos hsz]
    have e5 : ∀ b, wv (sgV b 0) = wv 0 := fun b => by cases b <;> kernel_rfl
    refine divides_none x w (fun w => ?_) (fun w => ?_) (fun w => ?_) (fun w => ?_) (fun w => ?_) (fun w => ?_)
    · have h := divmod_ref x 0 w; rwa [e1, e2] at h
    · have h := sdivmod_ref x 0 w; rwa [e3, e4, e5, e5] at h
    · have h := div_any x 0 w; rwa [e1] at h
    · have h := mod_any x 0 w; rwa [e2] at h
    · have h := sdiv_walk x 0 w; have e6 := e5 (ngV x != ngV 0); rw [wv_pw, wv_pw] at e6; rw [e3, e6] at h; exact h
    · have h := smod_walk x 0 w; have e6 := e5 (ngV x); rw [wv_pw, wv_pw] at e6; rw [e4, e6] at h; exact h
  · refine divides_some x y (quoV (x % 115792089237316195423570985008687907853269984665640564039457584007913129639936) y) (remV (x % 115792089237316195423570985008687907853269984665640564039457584007913129639936) y) (sgV (ngV x != ngV y) (quoV (szV x % 115792089237316195423570985008687907853269984665640564039457584007913129639936) (szV y))) (sgV (ngV x) (remV (szV x % 115792089237316195423570985008687907853269984665640564039457584007913129639936) (szV y))) hy w
      (fun w => divmod_ref x y w) (fun w => sdivmod_ref x y w) (fun w => div_any x y w) (fun w => mod_any x y w) (fun w => sdiv_walk x y w) (fun w => smod_walk x y w)
      (fun w => mul_any _ y w) (fun w => ?_) (fun w => ?_) (fun w => mul_any _ y w) (fun w => ?_)
    · have h := add_any (quoV (x % 115792089237316195423570985008687907853269984665640564039457584007913129639936) y * y) (remV (x % 115792089237316195423570985008687907853269984665640564039457584007913129639936) y) w
      rwa [wv_congr (back_plain x y hy)] at h
    · have h := cmp_any (remV (x % 115792089237316195423570985008687907853269984665640564039457584007913129639936) y) y w
      rwa [rest_less x y hy] at h
    · have h := add_any (sgV (ngV x != ngV y) (quoV (szV x % 115792089237316195423570985008687907853269984665640564039457584007913129639936) (szV y)) * y) (sgV (ngV x) (remV (szV x % 115792089237316195423570985008687907853269984665640564039457584007913129639936) (szV y))) w
      rwa [wv_congr (back_signed x y hy)] at h
end Go.Proofs.YthfadinocadhaaaDoor

/- bailiwicklaw01.WordPowers answers true, called with any three words in any world: powers are the document's, and multiply as they should. -/
import Derived.Test.YthfadinocadhaaaDoorExp
import Derived.Test.YthfadinocadhaaaDoorRings
import Derived.Test.YthfadinocadhaaaDoorSignsAny
import Derived.Deep.DeepCutAuto
namespace Go.Proofs.YthfadinocadhaaaDoor
open Go.RowKit

theorem Holds4.mk4 {B : Nat} {v0 v1 v2 v3 : Value} {wx : World} (h0 : wx.cell? ⟨B, 0, none⟩ = some v0) (h1 : wx.cell? ⟨B, 1, none⟩ = some v1) (h2 : wx.cell? ⟨B, 2, none⟩ = some v2) (h3 : wx.cell? ⟨B, 3, none⟩ = some v3) : Holds4 B v0 v1 v2 v3 wx := ⟨h0, h1, h2, h3⟩

set_option maxRecDepth 100000 in
set_option maxHeartbeats 2000000 in
theorem powers_over (a0 a1 a2 a3 b0 b1 b2 b3 c0 c1 c2 c3 s0 s1 s2 s3 : Nat) (n : Int) (hn0 : n < 0) (Va Vb Vc Vs V1 : Value) (w : World)
    (ea : Va = .agg #[.int .u64 a0, .int .u64 a1, .int .u64 a2, .int .u64 a3]) (eb : Vb = .agg #[.int .u64 b0, .int .u64 b1, .int .u64 b2, .int .u64 b3]) (ec : Vc = .agg #[.int .u64 c0, .int .u64 c1, .int .u64 c2, .int .u64 c3]) (es : Vs = .agg #[.int .u64 s0, .int .u64 s1, .int .u64 s2, .int .u64 s3])
    (h1 : ∀ w, Calls Tryd.prog 20 #[Va, Vb] w fun e w' => e = .returned V1 ∧ Below w.heap.size w w')
    (h2 : ∀ w, Calls Tryd.prog 21 #[Va, Vb] w fun e w' => e = .returned V1 ∧ Below w.heap.size w w')
    (hn : ∀ w, (binOp BinOp.neq 24 V1 V1).run Tryd.prog w = .ok (.bool false) w) (hng : ∀ o1 o2 w, (eqGuard BinOp.neq 24 o1 o2 V1 V1).run Tryd.prog w = .ok () w)
    (h3 : ∀ w, Calls Tryd.prog 13 #[.agg #[.int .u64 b0, .int .u64 b1, .int .u64 b2, .int .u64 b3], .agg #[.int .u64 c0, .int .u64 c1, .int .u64 c2, .int .u64 c3]] w fun e w' => e = .returned (.agg #[.int .u64 s0, .int .u64 s1, .int .u64 s2, .int .u64 s3]) ∧ Below w.heap.size w w')
    (h4 : ∀ w, Calls Tryd.prog 22 #[.agg #[.int .u64 s0, .int .u64 s1, .int .u64 s2, .int .u64 s3], .agg #[.int .u64 b0, .int .u64 b1, .int .u64 b2, .int .u64 b3]] w fun e w' => e = .returned (.int .i64 n) ∧ Below w.heap.size w w')
    (hlv : ∀ w, Calls Tryd.prog 19 #[] w fun e w' => e = .returned (.bool true) ∧ Below w.heap.size w w') :
    Calls Tryd.prog 4 #[.agg #[.int .u64 a0, .int .u64 a1, .int .u64 a2, .int .u64 a3], .agg #[.int .u64 b0, .int .u64 b1, .int .u64 b2, .int .u64 b3], .agg #[.int .u64 c0, .int .u64 c1, .int .u64 c2, .int .u64 c3]] w fun e w' => e = .returned (.bool true) ∧ Below w.heap.size w w' := by
  have H1 := Lib.hid h1; clear h1
  have H2 := Lib.hid h2; clear h2
  have Hn := Lib.hid hn; clear hn
  have Hng := Lib.hid hng; clear hng
  have H3 := Lib.hid h3; clear h3
  have H4 := Lib.hid h4; clear h4
  have Hlv := Lib.hid hlv; clear hlv
  have Ea := Lib.hid ea; clear ea
  have Eb := Lib.hid eb; clear eb
  have Ec := Lib.hid ec; clear ec
  have Es := Lib.hid es; clear es
  have hkeep : ∀ wx w', w.heap.size + 1 + 1 < wx.heap.size → Below wx.heap.size wx w' → (fun wx => Holds4 (w.heap.size) (.int .u64 a0) (.int .u64 a1) (.int .u64 a2) (.int .u64 a3) wx ∧ Holds4 (w.heap.size + 1) (.int .u64 b0) (.int .u64 b1) (.int .u64 b2) (.int .u64 b3) wx ∧ Holds4 (w.heap.size + 1 + 1) (.int .u64 c0) (.int .u64 c1) (.int .u64 c2) (.int .u64 c3) wx) wx → (fun wx => Holds4 (w.heap.size) (.int .u64 a0) (.int .u64 a1) (.int .u64 a2) (.int .u64 a3) wx ∧ Holds4 (w.heap.size + 1) (.int .u64 b0) (.int .u64 b1) (.int .u64 b2) (.int .u64 b3) wx ∧ Holds4 (w.heap.size + 1 + 1) (.int .u64 c0) (.int .u64 c1) (.int .u64 c2) (.int .u64 c3) wx) w' := fun wx w' ht hb ⟨h1, h2, h3⟩ => ⟨h1.below hb (by omega), h2.below hb (by omega), h3.below hb (by omega)⟩
  have La := Lib.hid (fun wx (hC : (ClG w (w.heap.size + 1 + 1) (fun wx => Holds4 (w.heap.size) (.int .u64 a0) (.int .u64 a1) (.int .u64 a2) (.int .u64 a3) wx ∧ Holds4 (w.heap.size + 1) (.int .u64 b0) (.int .u64 b1) (.int .u64 b2) (.int .u64 b3) wx ∧ Holds4 (w.heap.size + 1 + 1) (.int .u64 c0) (.int .u64 c1) (.int .u64 c2) (.int .u64 c3) wx)) wx) => (show (Instr.loadAt 24 (.pointer (some ⟨w.heap.size, 0, none⟩))).run Tryd.prog wx = .ok Va wx by rw [Ea.out]; exact load4 _ hC.2.2.1))
  have Lb := Lib.hid (fun wx (hC : (ClG w (w.heap.size + 1 + 1) (fun wx => Holds4 (w.heap.size) (.int .u64 a0) (.int .u64 a1) (.int .u64 a2) (.int .u64 a3) wx ∧ Holds4 (w.heap.size + 1) (.int .u64 b0) (.int .u64 b1) (.int .u64 b2) (.int .u64 b3) wx ∧ Holds4 (w.heap.size + 1 + 1) (.int .u64 c0) (.int .u64 c1) (.int .u64 c2) (.int .u64 c3) wx)) wx) => (show (Instr.loadAt 24 (.pointer (some ⟨w.heap.size + 1, 0, none⟩))).run Tryd.prog wx = .ok Vb wx by rw [Eb.out]; exact load4 _ hC.2.2.2.1))
  have K1 := Lib.hid (fun wx (hC : (ClG w (w.heap.size + 1 + 1) (fun wx => Holds4 (w.heap.size) (.int .u64 a0) (.int .u64 a1) (.int .u64 a2) (.int .u64 a3) wx ∧ Holds4 (w.heap.size + 1) (.int .u64 b0) (.int .u64 b1) (.int .u64 b2) (.int .u64 b3) wx ∧ Holds4 (w.heap.size + 1 + 1) (.int .u64 c0) (.int .u64 c1) (.int .u64 c2) (.int .u64 c3) wx)) wx) => (show Calls Tryd.prog 20 #[Va, Vb] wx fun e w' => e = .returned V1 ∧ (ClG w (w.heap.size + 1 + 1) (fun wx => Holds4 (w.heap.size) (.int .u64 a0) (.int .u64 a1) (.int .u64 a2) (.int .u64 a3) wx ∧ Holds4 (w.heap.size + 1) (.int .u64 b0) (.int .u64 b1) (.int .u64 b2) (.int .u64 b3) wx ∧ Holds4 (w.heap.size + 1 + 1) (.int .u64 c0) (.int .u64 c1) (.int .u64 c2) (.int .u64 c3) wx)) w' from (H1.out wx).mono fun _ _ h => ⟨h.1, hC.below hkeep h.2⟩))
  have K2 := Lib.hid (fun wx (hC : (ClG w (w.heap.size + 1 + 1) (fun wx => Holds4 (w.heap.size) (.int .u64 a0) (.int .u64 a1) (.int .u64 a2) (.int .u64 a3) wx ∧ Holds4 (w.heap.size + 1) (.int .u64 b0) (.int .u64 b1) (.int .u64 b2) (.int .u64 b3) wx ∧ Holds4 (w.heap.size + 1 + 1) (.int .u64 c0) (.int .u64 c1) (.int .u64 c2) (.int .u64 c3) wx)) wx) => (show Calls Tryd.prog 21 #[Va, Vb] wx fun e w' => e = .returned V1 ∧ (ClG w (w.heap.size + 1 + 1) (fun wx => Holds4 (w.heap.size) (.int .u64 a0) (.int .u64 a1) (.int .u64 a2) (.int .u64 a3) wx ∧ Holds4 (w.heap.size + 1) (.int .u64 b0) (.int .u64 b1) (.int .u64 b2) (.int .u64 b3) wx ∧ Holds4 (w.heap.size + 1 + 1) (.int .u64 c0) (.int .u64 c1) (.int .u64 c2) (.int .u64 c3) wx)) w' from (H2.out wx).mono fun _ _ h => ⟨h.1, hC.below hkeep h.2⟩))
  clear hkeep
  go_enter Tryd.func4, Tryd.ntmps4
  go_upto_region 1 with (fail)
  have hcl : (ClG w (w.heap.size + 1 + 1) (fun wx => Holds4 (w.heap.size) (.int .u64 a0) (.int .u64 a1) (.int .u64 a2) (.int .u64 a3) wx ∧ Holds4 (w.heap.size + 1) (.int .u64 b0) (.int .u64 b1) (.int .u64 b2) (.int .u64 b3) wx ∧ Holds4 (w.heap.size + 1 + 1) (.int .u64 c0) (.int .u64 c1) (.int .u64 c2) (.int .u64 c3) wx)) (((w.alloc (.cells #[.int .u64 a0, .int .u64 a1, .int .u64 a2, .int .u64 a3] 24)).alloc (.cells #[.int .u64 b0, .int .u64 b1, .int .u64 b2, .int .u64 b3] 24)).alloc (.cells #[.int .u64 c0, .int .u64 c1, .int .u64 c2, .int .u64 c3] 24)) := ⟨(by go_grown), (by simp), ⟨by go_cell, by go_cell, by go_cell, by go_cell⟩, ⟨by go_cell, by go_cell, by go_cell, by go_cell⟩, ⟨by go_cell, by go_cell, by go_cell, by go_cell⟩⟩
  refine wp_region_quiet (C := (ClG w (w.heap.size + 1 + 1) (fun wx => Holds4 (w.heap.size) (.int .u64 a0) (.int .u64 a1) (.int .u64 a2) (.int .u64 a3) wx ∧ Holds4 (w.heap.size + 1) (.int .u64 b0) (.int .u64 b1) (.int .u64 b2) (.int .u64 b3) wx ∧ Holds4 (w.heap.size + 1 + 1) (.int .u64 c0) (.int .u64 c1) (.int .u64 c2) (.int .u64 c3) wx))) (by kernel_rfl) (by kernel_rfl) (hcl.drew (fun _ h => h)) ?_
  clear hcl
  with_reducible refine q_load 24 (.tmp 3) (.pointer (some ⟨w.heap.size, 0, none⟩)) (Va) rfl (by kernel_rfl) (by kernel_rfl) La.out ?_
  with_reducible refine q_load 24 (.tmp 4) (.pointer (some ⟨w.heap.size + 1, 0, none⟩)) (Vb) rfl (by kernel_rfl) (by kernel_rfl) Lb.out ?_
  with_reducible refine q_call 20 #[Va, Vb] (V1) (by kernel_rfl) (fun _ => by kernel_rfl) K1.out ?_
  with_reducible refine q_load 24 (.tmp 3) (.pointer (some ⟨w.heap.size, 0, none⟩)) (Va) rfl (by kernel_rfl) (by kernel_rfl) La.out ?_
  with_reducible refine q_load 24 (.tmp 4) (.pointer (some ⟨w.heap.size + 1, 0, none⟩)) (Vb) rfl (by kernel_rfl) (by kernel_rfl) Lb.out ?_
  with_reducible refine q_call 21 #[Va, Vb] (V1) (by kernel_rfl) (fun _ => by kernel_rfl) K2.out ?_
  with_reducible refine q_bin .neq 24 _ _ 24 (V1) (V1) (.bool false) rfl (by kernel_rfl) (by kernel_rfl) (by kernel_rfl) (Hng.out _ _) Hn.out ?_
  with_reducible refine wpQuiet_nil ?_
  intro w2 hC
  generalize hA : Act.put _ _ _ = A
  have hF : A = ({ tmps := #[.agg #[.int .u64 a0, .int .u64 a1, .int .u64 a2, .int .u64 a3], .agg #[.int .u64 b0, .int .u64 b1, .int .u64 b2, .int .u64 b3], .agg #[.int .u64 c0, .int .u64 c1, .int .u64 c2, .int .u64 c3], .pointer (some ⟨w.heap.size, 0, none⟩), .pointer (some ⟨w.heap.size + 1, 0, none⟩), .pointer (some ⟨w.heap.size + 1 + 1, 0, none⟩), .bool false, undef, Va, Vb, V1, Va, Vb, V1, .bool false, undef, undef, undef, undef, undef, undef, undef, undef, undef, undef, undef, undef, undef, undef, undef, undef, undef, undef, undef, undef, undef, undef], defers := [] } : Act) := by subst hA; kernel_rfl
  clear hA
  subst hF
  obtain ⟨hB2, hz2, ⟨ac0, ac1, ac2, ac3⟩, ⟨bc0, bc1, bc2, bc3⟩, ⟨cc0, cc1, cc2, cc3⟩⟩ := hC
  have HC := Lib.hid (And.intro (Holds4.mk4 ac0 ac1 ac2 ac3) (And.intro (Holds4.mk4 bc0 bc1 bc2 bc3) (Holds4.mk4 cc0 cc1 cc2 cc3)))
  clear La Lb K1 K2
  go_wp2_with fail
  refine (H3.out _).mono ?_
  rintro e w3 ⟨rfl, hb⟩
  have hz3 : w.heap.size + 1 + 1 < w3.heap.size := by have := hb.size; omega
  have hA3 := HC.out.1.below hb (by omega)
  have hB3 := HC.out.2.1.below hb (by omega)
  have hC3 := HC.out.2.2.below hb (by omega)
  have hBw3 : Below w.heap.size w w3 := hB2.trans (hb.mono hB2.size)
  clear ac0 ac1 ac2 ac3 bc0 bc1 bc2 bc3 cc0 cc1 cc2 cc3 hB2 hz2 hb HC
  obtain ⟨ac0, ac1, ac2, ac3⟩ := hA3
  obtain ⟨bc0, bc1, bc2, bc3⟩ := hB3
  obtain ⟨cc0, cc1, cc2, cc3⟩ := hC3
  have y0 : w.heap.size < w3.heap.size := by omega
  have y1 : w.heap.size + 1 < w3.heap.size := by omega
  have hcl : (ClG w w3.heap.size (fun wx => Holds4 (w.heap.size) (.int .u64 a0) (.int .u64 a1) (.int .u64 a2) (.int .u64 a3) wx ∧ Holds4 (w.heap.size + 1) (.int .u64 b0) (.int .u64 b1) (.int .u64 b2) (.int .u64 b3) wx ∧ Holds4 (w.heap.size + 1 + 1) (.int .u64 c0) (.int .u64 c1) (.int .u64 c2) (.int .u64 c3) wx ∧ Holds4 (w3.heap.size) (.int .u64 s0) (.int .u64 s1) (.int .u64 s2) (.int .u64 s3) wx)) (w3.alloc (.cells #[.int .u64 s0, .int .u64 s1, .int .u64 s2, .int .u64 s3] 24)) := ⟨(by go_grown), (by simp), ⟨by go_cell, by go_cell, by go_cell, by go_cell⟩, ⟨by go_cell, by go_cell, by go_cell, by go_cell⟩, ⟨by go_cell, by go_cell, by go_cell, by go_cell⟩, ⟨by go_cell, by go_cell, by go_cell, by go_cell⟩⟩
  have HCL := Lib.hid hcl; clear hcl
  have hkeep : ∀ wx w', w3.heap.size < wx.heap.size → Below wx.heap.size wx w' → (fun wx => Holds4 (w.heap.size) (.int .u64 a0) (.int .u64 a1) (.int .u64 a2) (.int .u64 a3) wx ∧ Holds4 (w.heap.size + 1) (.int .u64 b0) (.int .u64 b1) (.int .u64 b2) (.int .u64 b3) wx ∧ Holds4 (w.heap.size + 1 + 1) (.int .u64 c0) (.int .u64 c1) (.int .u64 c2) (.int .u64 c3) wx ∧ Holds4 (w3.heap.size) (.int .u64 s0) (.int .u64 s1) (.int .u64 s2) (.int .u64 s3) wx) wx → (fun wx => Holds4 (w.heap.size) (.int .u64 a0) (.int .u64 a1) (.int .u64 a2) (.int .u64 a3) wx ∧ Holds4 (w.heap.size + 1) (.int .u64 b0) (.int .u64 b1) (.int .u64 b2) (.int .u64 b3) wx ∧ Holds4 (w.heap.size + 1 + 1) (.int .u64 c0) (.int .u64 c1) (.int .u64 c2) (.int .u64 c3) wx ∧ Holds4 (w3.heap.size) (.int .u64 s0) (.int .u64 s1) (.int .u64 s2) (.int .u64 s3) wx) w' := fun wx w' ht hb ⟨h1, h2, h3, h4⟩ => ⟨h1.below hb (by omega), h2.below hb (by omega), h3.below hb (by omega), h4.below hb ht⟩
  have HKEEP := Lib.hid hkeep; clear hkeep
  go_wp2_with fail
  refine (H4.out _).mono ?_
  rintro e w4 ⟨rfl, hb⟩
  have HC4 := Lib.hid (HCL.out.below HKEEP.out hb)
  clear ac0 ac1 ac2 ac3 bc0 bc1 bc2 bc3 cc0 cc1 cc2 cc3 hb HCL hBw3
  go_wp2_with fail
  refine (Hlv.out _).mono ?_
  rintro e2 w5 ⟨rfl, hb⟩
  have hB5 : Below w.heap.size w w5 := HC4.out.1.trans (hb.mono HC4.out.1.size)
  clear hb
  go_wp2
  go_ret
  exact ⟨rfl, hB5⟩

set_option maxRecDepth 100000 in
set_option maxHeartbeats 2000000 in
theorem powers_fits (a0 a1 a2 a3 b0 b1 b2 b3 c0 c1 c2 c3 s0 s1 s2 s3 : Nat) (n : Int) (hn0 : ¬ n < 0) (Va Vb Vc Vs V1 V2 V3 : Value) (w : World)
    (ea : Va = .agg #[.int .u64 a0, .int .u64 a1, .int .u64 a2, .int .u64 a3]) (eb : Vb = .agg #[.int .u64 b0, .int .u64 b1, .int .u64 b2, .int .u64 b3]) (ec : Vc = .agg #[.int .u64 c0, .int .u64 c1, .int .u64 c2, .int .u64 c3]) (es : Vs = .agg #[.int .u64 s0, .int .u64 s1, .int .u64 s2, .int .u64 s3])
    (h1 : ∀ w, Calls Tryd.prog 20 #[Va, Vb] w fun e w' => e = .returned V1 ∧ Below w.heap.size w w')
    (h2 : ∀ w, Calls Tryd.prog 21 #[Va, Vb] w fun e w' => e = .returned V1 ∧ Below w.heap.size w w')
    (hn : ∀ w, (binOp BinOp.neq 24 V1 V1).run Tryd.prog w = .ok (.bool false) w) (hng : ∀ o1 o2 w, (eqGuard BinOp.neq 24 o1 o2 V1 V1).run Tryd.prog w = .ok () w)
    (h3 : ∀ w, Calls Tryd.prog 13 #[.agg #[.int .u64 b0, .int .u64 b1, .int .u64 b2, .int .u64 b3], .agg #[.int .u64 c0, .int .u64 c1, .int .u64 c2, .int .u64 c3]] w fun e w' => e = .returned (.agg #[.int .u64 s0, .int .u64 s1, .int .u64 s2, .int .u64 s3]) ∧ Below w.heap.size w w')
    (h4 : ∀ w, Calls Tryd.prog 22 #[.agg #[.int .u64 s0, .int .u64 s1, .int .u64 s2, .int .u64 s3], .agg #[.int .u64 b0, .int .u64 b1, .int .u64 b2, .int .u64 b3]] w fun e w' => e = .returned (.int .i64 n) ∧ Below w.heap.size w w')
    (hlv : ∀ w, Calls Tryd.prog 19 #[] w fun e w' => e = .returned (.bool true) ∧ Below w.heap.size w w')
    (h5 : ∀ w, Calls Tryd.prog 20 #[Va, Vs] w fun e w' => e = .returned V2 ∧ Below w.heap.size w w')
    (h6 : ∀ w, Calls Tryd.prog 20 #[Va, Vc] w fun e w' => e = .returned V3 ∧ Below w.heap.size w w')
    (h7 : ∀ w, Calls Tryd.prog 17 #[V1, V3] w fun e w' => e = .returned V2 ∧ Below w.heap.size w w')
    (hq : ∀ w, (binOp BinOp.eql 24 V2 V2).run Tryd.prog w = .ok (.bool true) w) (hqg : ∀ o1 o2 w, (eqGuard BinOp.eql 24 o1 o2 V2 V2).run Tryd.prog w = .ok () w) :
    Calls Tryd.prog 4 #[.agg #[.int .u64 a0, .int .u64 a1, .int .u64 a2, .int .u64 a3], .agg #[.int .u64 b0, .int .u64 b1, .int .u64 b2, .int .u64 b3], .agg #[.int .u64 c0, .int .u64 c1, .int .u64 c2, .int .u64 c3]] w fun e w' => e = .returned (.bool true) ∧ Below w.heap.size w w' := by
  have H1 := Lib.hid h1; clear h1
  have H2 := Lib.hid h2; clear h2
  have Hn := Lib.hid hn; clear hn
  have Hng := Lib.hid hng; clear hng
  have H3 := Lib.hid h3; clear h3
  have H4 := Lib.hid h4; clear h4
  have Hlv := Lib.hid hlv; clear hlv
  have H5 := Lib.hid h5; clear h5
  have H6 := Lib.hid h6; clear h6
  have H7 := Lib.hid h7; clear h7
  have Hq := Lib.hid hq; clear hq
  have Hqg := Lib.hid hqg; clear hqg
  have Ea := Lib.hid ea; clear ea
  have Eb := Lib.hid eb; clear eb
  have Ec := Lib.hid ec; clear ec
  have Es := Lib.hid es; clear es
  have hkeep : ∀ wx w', w.heap.size + 1 + 1 < wx.heap.size → Below wx.heap.size wx w' → (fun wx => Holds4 (w.heap.size) (.int .u64 a0) (.int .u64 a1) (.int .u64 a2) (.int .u64 a3) wx ∧ Holds4 (w.heap.size + 1) (.int .u64 b0) (.int .u64 b1) (.int .u64 b2) (.int .u64 b3) wx ∧ Holds4 (w.heap.size + 1 + 1) (.int .u64 c0) (.int .u64 c1) (.int .u64 c2) (.int .u64 c3) wx) wx → (fun wx => Holds4 (w.heap.size) (.int .u64 a0) (.int .u64 a1) (.int .u64 a2) (.int .u64 a3) wx ∧ Holds4 (w.heap.size + 1) (.int .u64 b0) (.int .u64 b1) (.int .u64 b2) (.int .u64 b3) wx ∧ Holds4 (w.heap.size + 1 + 1) (.int .u64 c0) (.int .u64 c1) (.int .u64 c2) (.int .u64 c3) wx) w' := fun wx w' ht hb ⟨h1, h2, h3⟩ => ⟨h1.below hb (by omega), h2.below hb (by omega), h3.below hb (by omega)⟩
  have La := Lib.hid (fun wx (hC : (ClG w (w.heap.size + 1 + 1) (fun wx => Holds4 (w.heap.size) (.int .u64 a0) (.int .u64 a1) (.int .u64 a2) (.int .u64 a3) wx ∧ Holds4 (w.heap.size + 1) (.int .u64 b0) (.int .u64 b1) (.int .u64 b2) (.int .u64 b3) wx ∧ Holds4 (w.heap.size + 1 + 1) (.int .u64 c0) (.int .u64 c1) (.int .u64 c2) (.int .u64 c3) wx)) wx) => (show (Instr.loadAt 24 (.pointer (some ⟨w.heap.size, 0, none⟩))).run Tryd.prog wx = .ok Va wx by rw [Ea.out]; exact load4 _ hC.2.2.1))
  have Lb := Lib.hid (fun wx (hC : (ClG w (w.heap.size + 1 + 1) (fun wx => Holds4 (w.heap.size) (.int .u64 a0) (.int .u64 a1) (.int .u64 a2) (.int .u64 a3) wx ∧ Holds4 (w.heap.size + 1) (.int .u64 b0) (.int .u64 b1) (.int .u64 b2) (.int .u64 b3) wx ∧ Holds4 (w.heap.size + 1 + 1) (.int .u64 c0) (.int .u64 c1) (.int .u64 c2) (.int .u64 c3) wx)) wx) => (show (Instr.loadAt 24 (.pointer (some ⟨w.heap.size + 1, 0, none⟩))).run Tryd.prog wx = .ok Vb wx by rw [Eb.out]; exact load4 _ hC.2.2.2.1))
  have K1 := Lib.hid (fun wx (hC : (ClG w (w.heap.size + 1 + 1) (fun wx => Holds4 (w.heap.size) (.int .u64 a0) (.int .u64 a1) (.int .u64 a2) (.int .u64 a3) wx ∧ Holds4 (w.heap.size + 1) (.int .u64 b0) (.int .u64 b1) (.int .u64 b2) (.int .u64 b3) wx ∧ Holds4 (w.heap.size + 1 + 1) (.int .u64 c0) (.int .u64 c1) (.int .u64 c2) (.int .u64 c3) wx)) wx) => (show Calls Tryd.prog 20 #[Va, Vb] wx fun e w' => e = .returned V1 ∧ (ClG w (w.heap.size + 1 + 1) (fun wx => Holds4 (w.heap.size) (.int .u64 a0) (.int .u64 a1) (.int .u64 a2) (.int .u64 a3) wx ∧ Holds4 (w.heap.size + 1) (.int .u64 b0) (.int .u64 b1) (.int .u64 b2) (.int .u64 b3) wx ∧ Holds4 (w.heap.size + 1 + 1) (.int .u64 c0) (.int .u64 c1) (.int .u64 c2) (.int .u64 c3) wx)) w' from (H1.out wx).mono fun _ _ h => ⟨h.1, hC.below hkeep h.2⟩))
  have K2 := Lib.hid (fun wx (hC : (ClG w (w.heap.size + 1 + 1) (fun wx => Holds4 (w.heap.size) (.int .u64 a0) (.int .u64 a1) (.int .u64 a2) (.int .u64 a3) wx ∧ Holds4 (w.heap.size + 1) (.int .u64 b0) (.int .u64 b1) (.int .u64 b2) (.int .u64 b3) wx ∧ Holds4 (w.heap.size + 1 + 1) (.int .u64 c0) (.int .u64 c1) (.int .u64 c2) (.int .u64 c3) wx)) wx) => (show Calls Tryd.prog 21 #[Va, Vb] wx fun e w' => e = .returned V1 ∧ (ClG w (w.heap.size + 1 + 1) (fun wx => Holds4 (w.heap.size) (.int .u64 a0) (.int .u64 a1) (.int .u64 a2) (.int .u64 a3) wx ∧ Holds4 (w.heap.size + 1) (.int .u64 b0) (.int .u64 b1) (.int .u64 b2) (.int .u64 b3) wx ∧ Holds4 (w.heap.size + 1 + 1) (.int .u64 c0) (.int .u64 c1) (.int .u64 c2) (.int .u64 c3) wx)) w' from (H2.out wx).mono fun _ _ h => ⟨h.1, hC.below hkeep h.2⟩))
  clear hkeep
  go_enter Tryd.func4, Tryd.ntmps4
  go_upto_region 1 with (fail)
  have hcl : (ClG w (w.heap.size + 1 + 1) (fun wx => Holds4 (w.heap.size) (.int .u64 a0) (.int .u64 a1) (.int .u64 a2) (.int .u64 a3) wx ∧ Holds4 (w.heap.size + 1) (.int .u64 b0) (.int .u64 b1) (.int .u64 b2) (.int .u64 b3) wx ∧ Holds4 (w.heap.size + 1 + 1) (.int .u64 c0) (.int .u64 c1) (.int .u64 c2) (.int .u64 c3) wx)) (((w.alloc (.cells #[.int .u64 a0, .int .u64 a1, .int .u64 a2, .int .u64 a3] 24)).alloc (.cells #[.int .u64 b0, .int .u64 b1, .int .u64 b2, .int .u64 b3] 24)).alloc (.cells #[.int .u64 c0, .int .u64 c1, .int .u64 c2, .int .u64 c3] 24)) := ⟨(by go_grown), (by simp), ⟨by go_cell, by go_cell, by go_cell, by go_cell⟩, ⟨by go_cell, by go_cell, by go_cell, by go_cell⟩, ⟨by go_cell, by go_cell, by go_cell, by go_cell⟩⟩
  refine wp_region_quiet (C := (ClG w (w.heap.size + 1 + 1) (fun wx => Holds4 (w.heap.size) (.int .u64 a0) (.int .u64 a1) (.int .u64 a2) (.int .u64 a3) wx ∧ Holds4 (w.heap.size + 1) (.int .u64 b0) (.int .u64 b1) (.int .u64 b2) (.int .u64 b3) wx ∧ Holds4 (w.heap.size + 1 + 1) (.int .u64 c0) (.int .u64 c1) (.int .u64 c2) (.int .u64 c3) wx))) (by kernel_rfl) (by kernel_rfl) (hcl.drew (fun _ h => h)) ?_
  clear hcl
  with_reducible refine q_load 24 (.tmp 3) (.pointer (some ⟨w.heap.size, 0, none⟩)) (Va) rfl (by kernel_rfl) (by kernel_rfl) La.out ?_
  with_reducible refine q_load 24 (.tmp 4) (.pointer (some ⟨w.heap.size + 1, 0, none⟩)) (Vb) rfl (by kernel_rfl) (by kernel_rfl) Lb.out ?_
  with_reducible refine q_call 20 #[Va, Vb] (V1) (by kernel_rfl) (fun _ => by kernel_rfl) K1.out ?_
  with_reducible refine q_load 24 (.tmp 3) (.pointer (some ⟨w.heap.size, 0, none⟩)) (Va) rfl (by kernel_rfl) (by kernel_rfl) La.out ?_
  with_reducible refine q_load 24 (.tmp 4) (.pointer (some ⟨w.heap.size + 1, 0, none⟩)) (Vb) rfl (by kernel_rfl) (by kernel_rfl) Lb.out ?_
  with_reducible refine q_call 21 #[Va, Vb] (V1) (by kernel_rfl) (fun _ => by kernel_rfl) K2.out ?_
  with_reducible refine q_bin .neq 24 _ _ 24 (V1) (V1) (.bool false) rfl (by kernel_rfl) (by kernel_rfl) (by kernel_rfl) (Hng.out _ _) Hn.out ?_
  with_reducible refine wpQuiet_nil ?_
  intro w2 hC
  generalize hA : Act.put _ _ _ = A
  have hF : A = ({ tmps := #[.agg #[.int .u64 a0, .int .u64 a1, .int .u64 a2, .int .u64 a3], .agg #[.int .u64 b0, .int .u64 b1, .int .u64 b2, .int .u64 b3], .agg #[.int .u64 c0, .int .u64 c1, .int .u64 c2, .int .u64 c3], .pointer (some ⟨w.heap.size, 0, none⟩), .pointer (some ⟨w.heap.size + 1, 0, none⟩), .pointer (some ⟨w.heap.size + 1 + 1, 0, none⟩), .bool false, undef, Va, Vb, V1, Va, Vb, V1, .bool false, undef, undef, undef, undef, undef, undef, undef, undef, undef, undef, undef, undef, undef, undef, undef, undef, undef, undef, undef, undef, undef, undef], defers := [] } : Act) := by subst hA; kernel_rfl
  clear hA
  subst hF
  obtain ⟨hB2, hz2, ⟨ac0, ac1, ac2, ac3⟩, ⟨bc0, bc1, bc2, bc3⟩, ⟨cc0, cc1, cc2, cc3⟩⟩ := hC
  have HC := Lib.hid (And.intro (Holds4.mk4 ac0 ac1 ac2 ac3) (And.intro (Holds4.mk4 bc0 bc1 bc2 bc3) (Holds4.mk4 cc0 cc1 cc2 cc3)))
  clear La Lb K1 K2
  go_wp2_with fail
  refine (H3.out _).mono ?_
  rintro e w3 ⟨rfl, hb⟩
  have hz3 : w.heap.size + 1 + 1 < w3.heap.size := by have := hb.size; omega
  have hA3 := HC.out.1.below hb (by omega)
  have hB3 := HC.out.2.1.below hb (by omega)
  have hC3 := HC.out.2.2.below hb (by omega)
  have hBw3 : Below w.heap.size w w3 := hB2.trans (hb.mono hB2.size)
  clear ac0 ac1 ac2 ac3 bc0 bc1 bc2 bc3 cc0 cc1 cc2 cc3 hB2 hz2 hb HC
  obtain ⟨ac0, ac1, ac2, ac3⟩ := hA3
  obtain ⟨bc0, bc1, bc2, bc3⟩ := hB3
  obtain ⟨cc0, cc1, cc2, cc3⟩ := hC3
  have y0 : w.heap.size < w3.heap.size := by omega
  have y1 : w.heap.size + 1 < w3.heap.size := by omega
  have hcl : (ClG w w3.heap.size (fun wx => Holds4 (w.heap.size) (.int .u64 a0) (.int .u64 a1) (.int .u64 a2) (.int .u64 a3) wx ∧ Holds4 (w.heap.size + 1) (.int .u64 b0) (.int .u64 b1) (.int .u64 b2) (.int .u64 b3) wx ∧ Holds4 (w.heap.size + 1 + 1) (.int .u64 c0) (.int .u64 c1) (.int .u64 c2) (.int .u64 c3) wx ∧ Holds4 (w3.heap.size) (.int .u64 s0) (.int .u64 s1) (.int .u64 s2) (.int .u64 s3) wx)) (w3.alloc (.cells #[.int .u64 s0, .int .u64 s1, .int .u64 s2, .int .u64 s3] 24)) := ⟨(by go_grown), (by simp), ⟨by go_cell, by go_cell, by go_cell, by go_cell⟩, ⟨by go_cell, by go_cell, by go_cell, by go_cell⟩, ⟨by go_cell, by go_cell, by go_cell, by go_cell⟩, ⟨by go_cell, by go_cell, by go_cell, by go_cell⟩⟩
  have HCL := Lib.hid hcl; clear hcl
  have hkeep : ∀ wx w', w3.heap.size < wx.heap.size → Below wx.heap.size wx w' → (fun wx => Holds4 (w.heap.size) (.int .u64 a0) (.int .u64 a1) (.int .u64 a2) (.int .u64 a3) wx ∧ Holds4 (w.heap.size + 1) (.int .u64 b0) (.int .u64 b1) (.int .u64 b2) (.int .u64 b3) wx ∧ Holds4 (w.heap.size + 1 + 1) (.int .u64 c0) (.int .u64 c1) (.int .u64 c2) (.int .u64 c3) wx ∧ Holds4 (w3.heap.size) (.int .u64 s0) (.int .u64 s1) (.int .u64 s2) (.int .u64 s3) wx) wx → (fun wx => Holds4 (w.heap.size) (.int .u64 a0) (.int .u64 a1) (.int .u64 a2) (.int .u64 a3) wx ∧ Holds4 (w.heap.size + 1) (.int .u64 b0) (.int .u64 b1) (.int .u64 b2) (.int .u64 b3) wx ∧ Holds4 (w.heap.size + 1 + 1) (.int .u64 c0) (.int .u64 c1) (.int .u64 c2) (.int .u64 c3) wx ∧ Holds4 (w3.heap.size) (.int .u64 s0) (.int .u64 s1) (.int .u64 s2) (.int .u64 s3) wx) w' := fun wx w' ht hb ⟨h1, h2, h3, h4⟩ => ⟨h1.below hb (by omega), h2.below hb (by omega), h3.below hb (by omega), h4.below hb ht⟩
  have HKEEP := Lib.hid hkeep; clear hkeep
  go_wp2_with fail
  refine (H4.out _).mono ?_
  rintro e w4 ⟨rfl, hb⟩
  have HC4 := Lib.hid (HCL.out.below HKEEP.out hb)
  clear ac0 ac1 ac2 ac3 bc0 bc1 bc2 bc3 cc0 cc1 cc2 cc3 hb HCL hBw3
  have La := Lib.hid (fun wx (hC : (ClG w w3.heap.size (fun wx => Holds4 (w.heap.size) (.int .u64 a0) (.int .u64 a1) (.int .u64 a2) (.int .u64 a3) wx ∧ Holds4 (w.heap.size + 1) (.int .u64 b0) (.int .u64 b1) (.int .u64 b2) (.int .u64 b3) wx ∧ Holds4 (w.heap.size + 1 + 1) (.int .u64 c0) (.int .u64 c1) (.int .u64 c2) (.int .u64 c3) wx ∧ Holds4 (w3.heap.size) (.int .u64 s0) (.int .u64 s1) (.int .u64 s2) (.int .u64 s3) wx)) wx) => (show (Instr.loadAt 24 (.pointer (some ⟨w.heap.size, 0, none⟩))).run Tryd.prog wx = .ok Va wx by rw [Ea.out]; exact load4 _ hC.2.2.1))
  have Lb := Lib.hid (fun wx (hC : (ClG w w3.heap.size (fun wx => Holds4 (w.heap.size) (.int .u64 a0) (.int .u64 a1) (.int .u64 a2) (.int .u64 a3) wx ∧ Holds4 (w.heap.size + 1) (.int .u64 b0) (.int .u64 b1) (.int .u64 b2) (.int .u64 b3) wx ∧ Holds4 (w.heap.size + 1 + 1) (.int .u64 c0) (.int .u64 c1) (.int .u64 c2) (.int .u64 c3) wx ∧ Holds4 (w3.heap.size) (.int .u64 s0) (.int .u64 s1) (.int .u64 s2) (.int .u64 s3) wx)) wx) => (show (Instr.loadAt 24 (.pointer (some ⟨w.heap.size + 1, 0, none⟩))).run Tryd.prog wx = .ok Vb wx by rw [Eb.out]; exact load4 _ hC.2.2.2.1))
  have Lc := Lib.hid (fun wx (hC : (ClG w w3.heap.size (fun wx => Holds4 (w.heap.size) (.int .u64 a0) (.int .u64 a1) (.int .u64 a2) (.int .u64 a3) wx ∧ Holds4 (w.heap.size + 1) (.int .u64 b0) (.int .u64 b1) (.int .u64 b2) (.int .u64 b3) wx ∧ Holds4 (w.heap.size + 1 + 1) (.int .u64 c0) (.int .u64 c1) (.int .u64 c2) (.int .u64 c3) wx ∧ Holds4 (w3.heap.size) (.int .u64 s0) (.int .u64 s1) (.int .u64 s2) (.int .u64 s3) wx)) wx) => (show (Instr.loadAt 24 (.pointer (some ⟨w.heap.size + 1 + 1, 0, none⟩))).run Tryd.prog wx = .ok Vc wx by rw [Ec.out]; exact load4 _ hC.2.2.2.2.1))
  have Ls := Lib.hid (fun wx (hC : (ClG w w3.heap.size (fun wx => Holds4 (w.heap.size) (.int .u64 a0) (.int .u64 a1) (.int .u64 a2) (.int .u64 a3) wx ∧ Holds4 (w.heap.size + 1) (.int .u64 b0) (.int .u64 b1) (.int .u64 b2) (.int .u64 b3) wx ∧ Holds4 (w.heap.size + 1 + 1) (.int .u64 c0) (.int .u64 c1) (.int .u64 c2) (.int .u64 c3) wx ∧ Holds4 (w3.heap.size) (.int .u64 s0) (.int .u64 s1) (.int .u64 s2) (.int .u64 s3) wx)) wx) => (show (Instr.loadAt 24 (.pointer (some ⟨w3.heap.size, 0, none⟩))).run Tryd.prog wx = .ok Vs wx by rw [Es.out]; exact load4 _ hC.2.2.2.2.2))
  have K5 := Lib.hid (fun wx (hC : (ClG w w3.heap.size (fun wx => Holds4 (w.heap.size) (.int .u64 a0) (.int .u64 a1) (.int .u64 a2) (.int .u64 a3) wx ∧ Holds4 (w.heap.size + 1) (.int .u64 b0) (.int .u64 b1) (.int .u64 b2) (.int .u64 b3) wx ∧ Holds4 (w.heap.size + 1 + 1) (.int .u64 c0) (.int .u64 c1) (.int .u64 c2) (.int .u64 c3) wx ∧ Holds4 (w3.heap.size) (.int .u64 s0) (.int .u64 s1) (.int .u64 s2) (.int .u64 s3) wx)) wx) => (show Calls Tryd.prog 20 #[Va, Vs] wx fun e w' => e = .returned V2 ∧ (ClG w w3.heap.size (fun wx => Holds4 (w.heap.size) (.int .u64 a0) (.int .u64 a1) (.int .u64 a2) (.int .u64 a3) wx ∧ Holds4 (w.heap.size + 1) (.int .u64 b0) (.int .u64 b1) (.int .u64 b2) (.int .u64 b3) wx ∧ Holds4 (w.heap.size + 1 + 1) (.int .u64 c0) (.int .u64 c1) (.int .u64 c2) (.int .u64 c3) wx ∧ Holds4 (w3.heap.size) (.int .u64 s0) (.int .u64 s1) (.int .u64 s2) (.int .u64 s3) wx)) w' from (H5.out wx).mono fun _ _ h => ⟨h.1, hC.below HKEEP.out h.2⟩))
  have K1 := Lib.hid (fun wx (hC : (ClG w w3.heap.size (fun wx => Holds4 (w.heap.size) (.int .u64 a0) (.int .u64 a1) (.int .u64 a2) (.int .u64 a3) wx ∧ Holds4 (w.heap.size + 1) (.int .u64 b0) (.int .u64 b1) (.int .u64 b2) (.int .u64 b3) wx ∧ Holds4 (w.heap.size + 1 + 1) (.int .u64 c0) (.int .u64 c1) (.int .u64 c2) (.int .u64 c3) wx ∧ Holds4 (w3.heap.size) (.int .u64 s0) (.int .u64 s1) (.int .u64 s2) (.int .u64 s3) wx)) wx) => (show Calls Tryd.prog 20 #[Va, Vb] wx fun e w' => e = .returned V1 ∧ (ClG w w3.heap.size (fun wx => Holds4 (w.heap.size) (.int .u64 a0) (.int .u64 a1) (.int .u64 a2) (.int .u64 a3) wx ∧ Holds4 (w.heap.size + 1) (.int .u64 b0) (.int .u64 b1) (.int .u64 b2) (.int .u64 b3) wx ∧ Holds4 (w.heap.size + 1 + 1) (.int .u64 c0) (.int .u64 c1) (.int .u64 c2) (.int .u64 c3) wx ∧ Holds4 (w3.heap.size) (.int .u64 s0) (.int .u64 s1) (.int .u64 s2) (.int .u64 s3) wx)) w' from (H1.out wx).mono fun _ _ h => ⟨h.1, hC.below HKEEP.out h.2⟩))
  have K6 := Lib.hid (fun wx (hC : (ClG w w3.heap.size (fun wx => Holds4 (w.heap.size) (.int .u64 a0) (.int .u64 a1) (.int .u64 a2) (.int .u64 a3) wx ∧ Holds4 (w.heap.size + 1) (.int .u64 b0) (.int .u64 b1) (.int .u64 b2) (.int .u64 b3) wx ∧ Holds4 (w.heap.size + 1 + 1) (.int .u64 c0) (.int .u64 c1) (.int .u64 c2) (.int .u64 c3) wx ∧ Holds4 (w3.heap.size) (.int .u64 s0) (.int .u64 s1) (.int .u64 s2) (.int .u64 s3) wx)) wx) => (show Calls Tryd.prog 20 #[Va, Vc] wx fun e w' => e = .returned V3 ∧ (ClG w w3.heap.size (fun wx => Holds4 (w.heap.size) (.int .u64 a0) (.int .u64 a1) (.int .u64 a2) (.int .u64 a3) wx ∧ Holds4 (w.heap.size + 1) (.int .u64 b0) (.int .u64 b1) (.int .u64 b2) (.int .u64 b3) wx ∧ Holds4 (w.heap.size + 1 + 1) (.int .u64 c0) (.int .u64 c1) (.int .u64 c2) (.int .u64 c3) wx ∧ Holds4 (w3.heap.size) (.int .u64 s0) (.int .u64 s1) (.int .u64 s2) (.int .u64 s3) wx)) w' from (H6.out wx).mono fun _ _ h => ⟨h.1, hC.below HKEEP.out h.2⟩))
  have K7 := Lib.hid (fun wx (hC : (ClG w w3.heap.size (fun wx => Holds4 (w.heap.size) (.int .u64 a0) (.int .u64 a1) (.int .u64 a2) (.int .u64 a3) wx ∧ Holds4 (w.heap.size + 1) (.int .u64 b0) (.int .u64 b1) (.int .u64 b2) (.int .u64 b3) wx ∧ Holds4 (w.heap.size + 1 + 1) (.int .u64 c0) (.int .u64 c1) (.int .u64 c2) (.int .u64 c3) wx ∧ Holds4 (w3.heap.size) (.int .u64 s0) (.int .u64 s1) (.int .u64 s2) (.int .u64 s3) wx)) wx) => (show Calls Tryd.prog 17 #[V1, V3] wx fun e w' => e = .returned V2 ∧ (ClG w w3.heap.size (fun wx => Holds4 (w.heap.size) (.int .u64 a0) (.int .u64 a1) (.int .u64 a2) (.int .u64 a3) wx ∧ Holds4 (w.heap.size + 1) (.int .u64 b0) (.int .u64 b1) (.int .u64 b2) (.int .u64 b3) wx ∧ Holds4 (w.heap.size + 1 + 1) (.int .u64 c0) (.int .u64 c1) (.int .u64 c2) (.int .u64 c3) wx ∧ Holds4 (w3.heap.size) (.int .u64 s0) (.int .u64 s1) (.int .u64 s2) (.int .u64 s3) wx)) w' from (H7.out wx).mono fun _ _ h => ⟨h.1, hC.below HKEEP.out h.2⟩))
  have K8 := Lib.hid (fun wx (hC : (ClG w w3.heap.size (fun wx => Holds4 (w.heap.size) (.int .u64 a0) (.int .u64 a1) (.int .u64 a2) (.int .u64 a3) wx ∧ Holds4 (w.heap.size + 1) (.int .u64 b0) (.int .u64 b1) (.int .u64 b2) (.int .u64 b3) wx ∧ Holds4 (w.heap.size + 1 + 1) (.int .u64 c0) (.int .u64 c1) (.int .u64 c2) (.int .u64 c3) wx ∧ Holds4 (w3.heap.size) (.int .u64 s0) (.int .u64 s1) (.int .u64 s2) (.int .u64 s3) wx)) wx) => (show Calls Tryd.prog 19 #[] wx fun e w' => e = .returned (.bool true) ∧ (ClG w w3.heap.size (fun wx => Holds4 (w.heap.size) (.int .u64 a0) (.int .u64 a1) (.int .u64 a2) (.int .u64 a3) wx ∧ Holds4 (w.heap.size + 1) (.int .u64 b0) (.int .u64 b1) (.int .u64 b2) (.int .u64 b3) wx ∧ Holds4 (w.heap.size + 1 + 1) (.int .u64 c0) (.int .u64 c1) (.int .u64 c2) (.int .u64 c3) wx ∧ Holds4 (w3.heap.size) (.int .u64 s0) (.int .u64 s1) (.int .u64 s2) (.int .u64 s3) wx)) w' from (Hlv.out wx).mono fun _ _ h => ⟨h.1, hC.below HKEEP.out h.2⟩))
  go_upto_region 6 with (fail)
  refine wp_region_quiet (C := (ClG w w3.heap.size (fun wx => Holds4 (w.heap.size) (.int .u64 a0) (.int .u64 a1) (.int .u64 a2) (.int .u64 a3) wx ∧ Holds4 (w.heap.size + 1) (.int .u64 b0) (.int .u64 b1) (.int .u64 b2) (.int .u64 b3) wx ∧ Holds4 (w.heap.size + 1 + 1) (.int .u64 c0) (.int .u64 c1) (.int .u64 c2) (.int .u64 c3) wx ∧ Holds4 (w3.heap.size) (.int .u64 s0) (.int .u64 s1) (.int .u64 s2) (.int .u64 s3) wx))) (by kernel_rfl) (by kernel_rfl) (HC4.out.drew (fun _ h => h)) ?_
  with_reducible refine q_load 24 (.tmp 3) (.pointer (some ⟨w.heap.size, 0, none⟩)) (Va) rfl (by kernel_rfl) (by kernel_rfl) La.out ?_
  with_reducible refine q_load 24 (.tmp 7) (.pointer (some ⟨w3.heap.size, 0, none⟩)) (Vs) rfl (by kernel_rfl) (by kernel_rfl) Ls.out ?_
  with_reducible refine q_call 20 #[Va, Vs] (V2) (by kernel_rfl) (fun _ => by kernel_rfl) K5.out ?_
  with_reducible refine q_load 24 (.tmp 3) (.pointer (some ⟨w.heap.size, 0, none⟩)) (Va) rfl (by kernel_rfl) (by kernel_rfl) La.out ?_
  with_reducible refine q_load 24 (.tmp 4) (.pointer (some ⟨w.heap.size + 1, 0, none⟩)) (Vb) rfl (by kernel_rfl) (by kernel_rfl) Lb.out ?_
  with_reducible refine q_call 20 #[Va, Vb] (V1) (by kernel_rfl) (fun _ => by kernel_rfl) K1.out ?_
  with_reducible refine q_load 24 (.tmp 3) (.pointer (some ⟨w.heap.size, 0, none⟩)) (Va) rfl (by kernel_rfl) (by kernel_rfl) La.out ?_
  with_reducible refine q_load 24 (.tmp 5) (.pointer (some ⟨w.heap.size + 1 + 1, 0, none⟩)) (Vc) rfl (by kernel_rfl) (by kernel_rfl) Lc.out ?_
  with_reducible refine q_call 20 #[Va, Vc] (V3) (by kernel_rfl) (fun _ => by kernel_rfl) K6.out ?_
  with_reducible refine q_call 17 #[V1, V3] (V2) (by kernel_rfl) (fun _ => by kernel_rfl) K7.out ?_
  with_reducible refine q_bin .eql 24 _ _ 24 (V2) (V2) (.bool true) rfl (by kernel_rfl) (by kernel_rfl) (by kernel_rfl) (Hqg.out _ _) Hq.out ?_
  with_reducible refine q_val (.bool true) (by kernel_rfl) (fun _ _ => by kernel_rfl) ?_
  with_reducible refine q_call 19 #[] (.bool true) (by kernel_rfl) (fun _ => by kernel_rfl) K8.out ?_
  with_reducible refine q_val (.bool true) (by kernel_rfl) (fun _ _ => by kernel_rfl) ?_
  with_reducible refine q_val (.bool true) (by kernel_rfl) (fun _ _ => by kernel_rfl) ?_
  with_reducible refine wpQuiet_nil ?_
  intro wx hC
  have hB := hC.1
  clear hC
  generalize hA : Act.put _ _ _ = A
  have h6 : A.tmps.getD 6 undef = Value.bool true := by subst hA; kernel_rfl
  have hd : A.defers = [] := by subst hA; kernel_rfl
  clear hA
  go_wp2
  (try simp only [Exit.inBlock, Exit.then])
  refine bodyPost_ret (v := .bool true) (by rw [results_tmp rfl _ _ _, h6]) hd ⟨rfl, hB⟩

theorem powers_any (x y z : Nat) (w : World) : Calls Tryd.prog 4 #[wv x, wv y, wv z] w fun e w' => e = .returned (.bool true) ∧ Below w.heap.size w w' := by
  obtain ⟨a0, a1, a2, a3, -, -, -, -, ea, -⟩ := wv_parts x
  obtain ⟨b0, b1, b2, b3, -, -, -, -, eb, -⟩ := wv_parts y
  obtain ⟨c0, c1, c2, c3, -, -, -, -, ec, -⟩ := wv_parts z
  obtain ⟨s0, s1, s2, s3, -, -, -, -, es, -⟩ := wv_parts (y + z)
  have h3 := fun w => add_any y z w
  rw [eb, ec, es] at h3
  have h4 := fun w => cmp_any (y + z) y w
  rw [es, eb] at h4
  have hyl : y % 115792089237316195423570985008687907853269984665640564039457584007913129639936 < 115792089237316195423570985008687907853269984665640564039457584007913129639936 := Nat.mod_lt _ (by omega)
  have hzl : z % 115792089237316195423570985008687907853269984665640564039457584007913129639936 < 115792089237316195423570985008687907853269984665640564039457584007913129639936 := Nat.mod_lt _ (by omega)
  have hsum : (y + z) % 115792089237316195423570985008687907853269984665640564039457584007913129639936 = (y % 115792089237316195423570985008687907853269984665640564039457584007913129639936 + z % 115792089237316195423570985008687907853269984665640564039457584007913129639936) % 115792089237316195423570985008687907853269984665640564039457584007913129639936 := Nat.add_mod _ _ _
  by_cases hlt : (y + z) % 115792089237316195423570985008687907853269984665640564039457584007913129639936 < y % 115792089237316195423570985008687907853269984665640564039457584007913129639936
  · have R := powers_over a0 a1 a2 a3 b0 b1 b2 b3 c0 c1 c2 c3 s0 s1 s2 s3 _ (by unfold ord; rw [if_pos hlt]; omega) (wv x) (wv y) (wv z) (wv (y + z)) _ w ea eb ec es
      (fun w => exp_any x y w) (fun w => expr_any x y w) (neb_any _) (neg_any _) h3 h4 lives_any
    rw [ea, eb, ec]
    exact R
  · have hfit : (y + z) % 115792089237316195423570985008687907853269984665640564039457584007913129639936 = y % 115792089237316195423570985008687907853269984665640564039457584007913129639936 + z % 115792089237316195423570985008687907853269984665640564039457584007913129639936 := by omega
    have h7 := fun w => mul_any (x ^ (y % 115792089237316195423570985008687907853269984665640564039457584007913129639936)) (x ^ (z % 115792089237316195423570985008687907853269984665640564039457584007913129639936)) w
    rw [← Nat.pow_add] at h7
    have R := powers_fits a0 a1 a2 a3 b0 b1 b2 b3 c0 c1 c2 c3 s0 s1 s2 s3 _ (by unfold ord; rw [if_neg hlt]; split <;> omega) (wv x) (wv y) (wv z) (wv (y + z)) _ _ _ w ea eb ec es
      (fun w => exp_any x y w) (fun w => expr_any x y w) (neb_any _) (neg_any _) h3 h4 lives_any
      (fun w => by have h := exp_any x (y + z) w; rw [hfit] at h; exact h) (fun w => exp_any x z w) h7 (eqb_any _) (eqg_any _)
    rw [ea, eb, ec]
    exact R
end Go.Proofs.YthfadinocadhaaaDoor

/- bailiwicklaw01.WordRing answers true, called with any three words in any world: sums and products may be taken in whatever order, and products go over sums: the walk. -/
import Derived.Test.YthfadinocadhaaaDoorCells
namespace Go.Proofs.YthfadinocadhaaaDoor
open Go.RowKit

set_option maxRecDepth 100000 in
set_option maxHeartbeats 2000000 in
theorem ring_walk (a0 a1 a2 a3 b0 b1 b2 b3 c0 c1 c2 c3 s0 s1 s2 s3 : Nat) (Va Vb Vc Vs Vt Vu Vm Vp Vq Vv Vx : Value) (w : World)
    (hs0 : ∀ w, Calls Tryd.prog 13 #[.agg #[.int .u64 a0, .int .u64 a1, .int .u64 a2, .int .u64 a3], .agg #[.int .u64 b0, .int .u64 b1, .int .u64 b2, .int .u64 b3]] w fun e w' => e = .returned (.agg #[.int .u64 s0, .int .u64 s1, .int .u64 s2, .int .u64 s3]) ∧ Below w.heap.size w w')
    (hqs : ∀ w, (binOp BinOp.eql 24 Vs Vs).run Tryd.prog w = .ok (.bool true) w) (hgs : ∀ o1 o2 w, (eqGuard BinOp.eql 24 o1 o2 Vs Vs).run Tryd.prog w = .ok () w)
    (hqa : ∀ w, (binOp BinOp.eql 24 Va Va).run Tryd.prog w = .ok (.bool true) w) (hga : ∀ o1 o2 w, (eqGuard BinOp.eql 24 o1 o2 Va Va).run Tryd.prog w = .ok () w)
    (hqt : ∀ w, (binOp BinOp.eql 24 Vt Vt).run Tryd.prog w = .ok (.bool true) w) (hgt : ∀ o1 o2 w, (eqGuard BinOp.eql 24 o1 o2 Vt Vt).run Tryd.prog w = .ok () w)
    (hqm : ∀ w, (binOp BinOp.eql 24 Vm Vm).run Tryd.prog w = .ok (.bool true) w) (hgm : ∀ o1 o2 w, (eqGuard BinOp.eql 24 o1 o2 Vm Vm).run Tryd.prog w = .ok () w)
    (hqp : ∀ w, (binOp BinOp.eql 24 Vp Vp).run Tryd.prog w = .ok (.bool true) w) (hgp : ∀ o1 o2 w, (eqGuard BinOp.eql 24 o1 o2 Vp Vp).run Tryd.prog w = .ok () w)
    (hqv : ∀ w, (binOp BinOp.eql 24 Vv Vv).run Tryd.prog w = .ok (.bool true) w) (hgv : ∀ o1 o2 w, (eqGuard BinOp.eql 24 o1 o2 Vv Vv).run Tryd.prog w = .ok () w)
    (ea : Va = .agg #[.int .u64 a0, .int .u64 a1, .int .u64 a2, .int .u64 a3])    (eb : Vb = .agg #[.int .u64 b0, .int .u64 b1, .int .u64 b2, .int .u64 b3])    (ec : Vc = .agg #[.int .u64 c0, .int .u64 c1, .int .u64 c2, .int .u64 c3])    (es : Vs = .agg #[.int .u64 s0, .int .u64 s1, .int .u64 s2, .int .u64 s3])
    (hba : ∀ w, Calls Tryd.prog 13 #[Vb, Va] w fun e w' => e = .returned Vs ∧ Below w.heap.size w w')
    (hsb : ∀ w, Calls Tryd.prog 15 #[Vs, Vb] w fun e w' => e = .returned Va ∧ Below w.heap.size w w')
    (hsc : ∀ w, Calls Tryd.prog 13 #[Vs, Vc] w fun e w' => e = .returned Vt ∧ Below w.heap.size w w')
    (hbc : ∀ w, Calls Tryd.prog 13 #[Vb, Vc] w fun e w' => e = .returned Vu ∧ Below w.heap.size w w')
    (hau : ∀ w, Calls Tryd.prog 13 #[Va, Vu] w fun e w' => e = .returned Vt ∧ Below w.heap.size w w')
    (hmab : ∀ w, Calls Tryd.prog 17 #[Va, Vb] w fun e w' => e = .returned Vm ∧ Below w.heap.size w w')
    (hmba : ∀ w, Calls Tryd.prog 17 #[Vb, Va] w fun e w' => e = .returned Vm ∧ Below w.heap.size w w')
    (hmmc : ∀ w, Calls Tryd.prog 17 #[Vm, Vc] w fun e w' => e = .returned Vp ∧ Below w.heap.size w w')
    (hmbc : ∀ w, Calls Tryd.prog 17 #[Vb, Vc] w fun e w' => e = .returned Vq ∧ Below w.heap.size w w')
    (hmaq : ∀ w, Calls Tryd.prog 17 #[Va, Vq] w fun e w' => e = .returned Vp ∧ Below w.heap.size w w')
    (hmsc : ∀ w, Calls Tryd.prog 17 #[Vs, Vc] w fun e w' => e = .returned Vv ∧ Below w.heap.size w w')
    (hmac : ∀ w, Calls Tryd.prog 17 #[Va, Vc] w fun e w' => e = .returned Vx ∧ Below w.heap.size w w')
    (hxq : ∀ w, Calls Tryd.prog 13 #[Vx, Vq] w fun e w' => e = .returned Vv ∧ Below w.heap.size w w')
    (hlv : ∀ w, Calls Tryd.prog 19 #[] w fun e w' => e = .returned (.bool true) ∧ Below w.heap.size w w') :
    Calls Tryd.prog 10 #[.agg #[.int .u64 a0, .int .u64 a1, .int .u64 a2, .int .u64 a3], .agg #[.int .u64 b0, .int .u64 b1, .int .u64 b2, .int .u64 b3], .agg #[.int .u64 c0, .int .u64 c1, .int .u64 c2, .int .u64 c3]] w fun e w' => e = .returned (.bool true) ∧ Below w.heap.size w w' := by
  have Hba := Lib.hid hba; clear hba
  have Hsb := Lib.hid hsb; clear hsb
  have Hsc := Lib.hid hsc; clear hsc
  have Hbc := Lib.hid hbc; clear hbc
  have Hau := Lib.hid hau; clear hau
  have Hmab := Lib.hid hmab; clear hmab
  have Hmba := Lib.hid hmba; clear hmba
  have Hmmc := Lib.hid hmmc; clear hmmc
  have Hmbc := Lib.hid hmbc; clear hmbc
  have Hmaq := Lib.hid hmaq; clear hmaq
  have Hmsc := Lib.hid hmsc; clear hmsc
  have Hmac := Lib.hid hmac; clear hmac
  have Hxq := Lib.hid hxq; clear hxq
  have Hlv := Lib.hid hlv; clear hlv
  have Hs0 := Lib.hid hs0; clear hs0
  have Hqs := Lib.hid hqs; clear hqs
  have Hgs := Lib.hid hgs; clear hgs
  have Hqa := Lib.hid hqa; clear hqa
  have Hga := Lib.hid hga; clear hga
  have Hqt := Lib.hid hqt; clear hqt
  have Hgt := Lib.hid hgt; clear hgt
  have Hqm := Lib.hid hqm; clear hqm
  have Hgm := Lib.hid hgm; clear hgm
  have Hqp := Lib.hid hqp; clear hqp
  have Hgp := Lib.hid hgp; clear hgp
  have Hqv := Lib.hid hqv; clear hqv
  have Hgv := Lib.hid hgv; clear hgv
  have Ea := Lib.hid ea; clear ea
  have Eb := Lib.hid eb; clear eb
  have Ec := Lib.hid ec; clear ec
  have Es := Lib.hid es; clear es
  go_enter Tryd.func10, Tryd.ntmps10
  go_wp2_with fail
  refine (Hs0.out _).mono ?_
  rintro e w1 ⟨rfl, hb⟩
  have z1 : w.heap.size + 1 + 1 < w1.heap.size := by have h := hb.size; simp at h; omega
  have hB1 : Below w.heap.size w w1 := Below.trans (by go_grown) (hb.mono (by simp; omega))
  have ac0 : w1.cell? ⟨w.heap.size, 0, none⟩ = some (.int .u64 a0) := (hb.cell (p := ⟨w.heap.size, 0, none⟩) (by first | (simp; done) | (simp; omega))).trans (by go_cell)
  have ac1 : w1.cell? ⟨w.heap.size, 1, none⟩ = some (.int .u64 a1) := (hb.cell (p := ⟨w.heap.size, 1, none⟩) (by first | (simp; done) | (simp; omega))).trans (by go_cell)
  have ac2 : w1.cell? ⟨w.heap.size, 2, none⟩ = some (.int .u64 a2) := (hb.cell (p := ⟨w.heap.size, 2, none⟩) (by first | (simp; done) | (simp; omega))).trans (by go_cell)
  have ac3 : w1.cell? ⟨w.heap.size, 3, none⟩ = some (.int .u64 a3) := (hb.cell (p := ⟨w.heap.size, 3, none⟩) (by first | (simp; done) | (simp; omega))).trans (by go_cell)
  have bc0 : w1.cell? ⟨w.heap.size + 1, 0, none⟩ = some (.int .u64 b0) := (hb.cell (p := ⟨w.heap.size + 1, 0, none⟩) (by first | (simp; done) | (simp; omega))).trans (by go_cell)
  have bc1 : w1.cell? ⟨w.heap.size + 1, 1, none⟩ = some (.int .u64 b1) := (hb.cell (p := ⟨w.heap.size + 1, 1, none⟩) (by first | (simp; done) | (simp; omega))).trans (by go_cell)
  have bc2 : w1.cell? ⟨w.heap.size + 1, 2, none⟩ = some (.int .u64 b2) := (hb.cell (p := ⟨w.heap.size + 1, 2, none⟩) (by first | (simp; done) | (simp; omega))).trans (by go_cell)
  have bc3 : w1.cell? ⟨w.heap.size + 1, 3, none⟩ = some (.int .u64 b3) := (hb.cell (p := ⟨w.heap.size + 1, 3, none⟩) (by first | (simp; done) | (simp; omega))).trans (by go_cell)
  have cc0 : w1.cell? ⟨w.heap.size + 1 + 1, 0, none⟩ = some (.int .u64 c0) := (hb.cell (p := ⟨w.heap.size + 1 + 1, 0, none⟩) (by first | (simp; done) | (simp; omega))).trans (by go_cell)
  have cc1 : w1.cell? ⟨w.heap.size + 1 + 1, 1, none⟩ = some (.int .u64 c1) := (hb.cell (p := ⟨w.heap.size + 1 + 1, 1, none⟩) (by first | (simp; done) | (simp; omega))).trans (by go_cell)
  have cc2 : w1.cell? ⟨w.heap.size + 1 + 1, 2, none⟩ = some (.int .u64 c2) := (hb.cell (p := ⟨w.heap.size + 1 + 1, 2, none⟩) (by first | (simp; done) | (simp; omega))).trans (by go_cell)
  have cc3 : w1.cell? ⟨w.heap.size + 1 + 1, 3, none⟩ = some (.int .u64 c3) := (hb.cell (p := ⟨w.heap.size + 1 + 1, 3, none⟩) (by first | (simp; done) | (simp; omega))).trans (by go_cell)
  clear hb
  have z2 : w.heap.size < w1.heap.size := by omega
  have z3 : w.heap.size + 1 < w1.heap.size := by omega
  have hcl : ClG w w1.heap.size (fun wx => Holds4 w.heap.size (.int .u64 a0) (.int .u64 a1) (.int .u64 a2) (.int .u64 a3) wx ∧ Holds4 (w.heap.size + 1) (.int .u64 b0) (.int .u64 b1) (.int .u64 b2) (.int .u64 b3) wx ∧ Holds4 (w.heap.size + 1 + 1) (.int .u64 c0) (.int .u64 c1) (.int .u64 c2) (.int .u64 c3) wx ∧ Holds4 w1.heap.size (.int .u64 s0) (.int .u64 s1) (.int .u64 s2) (.int .u64 s3) wx) (w1.alloc (.cells #[.int .u64 s0, .int .u64 s1, .int .u64 s2, .int .u64 s3] 24)) := ⟨(by go_grown), (by simp), ⟨⟨by go_cell, by go_cell, by go_cell, by go_cell⟩, ⟨by go_cell, by go_cell, by go_cell, by go_cell⟩, ⟨by go_cell, by go_cell, by go_cell, by go_cell⟩, ⟨by go_cell, by go_cell, by go_cell, by go_cell⟩⟩⟩
  have hkeep : ∀ wx w', w1.heap.size < wx.heap.size → Below wx.heap.size wx w' → (fun wx => Holds4 w.heap.size (.int .u64 a0) (.int .u64 a1) (.int .u64 a2) (.int .u64 a3) wx ∧ Holds4 (w.heap.size + 1) (.int .u64 b0) (.int .u64 b1) (.int .u64 b2) (.int .u64 b3) wx ∧ Holds4 (w.heap.size + 1 + 1) (.int .u64 c0) (.int .u64 c1) (.int .u64 c2) (.int .u64 c3) wx ∧ Holds4 w1.heap.size (.int .u64 s0) (.int .u64 s1) (.int .u64 s2) (.int .u64 s3) wx) wx → (fun wx => Holds4 w.heap.size (.int .u64 a0) (.int .u64 a1) (.int .u64 a2) (.int .u64 a3) wx ∧ Holds4 (w.heap.size + 1) (.int .u64 b0) (.int .u64 b1) (.int .u64 b2) (.int .u64 b3) wx ∧ Holds4 (w.heap.size + 1 + 1) (.int .u64 c0) (.int .u64 c1) (.int .u64 c2) (.int .u64 c3) wx ∧ Holds4 w1.heap.size (.int .u64 s0) (.int .u64 s1) (.int .u64 s2) (.int .u64 s3) wx) w' := fun wx w' ht hb ⟨h1, h2, h3, h4⟩ => ⟨h1.below hb (by omega), h2.below hb (by omega), h3.below hb (by omega), h4.below hb ht⟩
  have hLa : ∀ wx, (ClG w w1.heap.size (fun wx => Holds4 w.heap.size (.int .u64 a0) (.int .u64 a1) (.int .u64 a2) (.int .u64 a3) wx ∧ Holds4 (w.heap.size + 1) (.int .u64 b0) (.int .u64 b1) (.int .u64 b2) (.int .u64 b3) wx ∧ Holds4 (w.heap.size + 1 + 1) (.int .u64 c0) (.int .u64 c1) (.int .u64 c2) (.int .u64 c3) wx ∧ Holds4 w1.heap.size (.int .u64 s0) (.int .u64 s1) (.int .u64 s2) (.int .u64 s3) wx)) wx → (Instr.loadAt 24 (.pointer (some ⟨w.heap.size, 0, none⟩))).run Tryd.prog wx = .ok Va wx := fun wx hC => by rw [Ea.out]; exact load4 _ hC.2.2.1
  have hLb : ∀ wx, (ClG w w1.heap.size (fun wx => Holds4 w.heap.size (.int .u64 a0) (.int .u64 a1) (.int .u64 a2) (.int .u64 a3) wx ∧ Holds4 (w.heap.size + 1) (.int .u64 b0) (.int .u64 b1) (.int .u64 b2) (.int .u64 b3) wx ∧ Holds4 (w.heap.size + 1 + 1) (.int .u64 c0) (.int .u64 c1) (.int .u64 c2) (.int .u64 c3) wx ∧ Holds4 w1.heap.size (.int .u64 s0) (.int .u64 s1) (.int .u64 s2) (.int .u64 s3) wx)) wx → (Instr.loadAt 24 (.pointer (some ⟨w.heap.size + 1, 0, none⟩))).run Tryd.prog wx = .ok Vb wx := fun wx hC => by rw [Eb.out]; exact load4 _ hC.2.2.2.1
  have hLc : ∀ wx, (ClG w w1.heap.size (fun wx => Holds4 w.heap.size (.int .u64 a0) (.int .u64 a1) (.int .u64 a2) (.int .u64 a3) wx ∧ Holds4 (w.heap.size + 1) (.int .u64 b0) (.int .u64 b1) (.int .u64 b2) (.int .u64 b3) wx ∧ Holds4 (w.heap.size + 1 + 1) (.int .u64 c0) (.int .u64 c1) (.int .u64 c2) (.int .u64 c3) wx ∧ Holds4 w1.heap.size (.int .u64 s0) (.int .u64 s1) (.int .u64 s2) (.int .u64 s3) wx)) wx → (Instr.loadAt 24 (.pointer (some ⟨w.heap.size + 1 + 1, 0, none⟩))).run Tryd.prog wx = .ok Vc wx := fun wx hC => by rw [Ec.out]; exact load4 _ hC.2.2.2.2.1
  have hLs : ∀ wx, (ClG w w1.heap.size (fun wx => Holds4 w.heap.size (.int .u64 a0) (.int .u64 a1) (.int .u64 a2) (.int .u64 a3) wx ∧ Holds4 (w.heap.size + 1) (.int .u64 b0) (.int .u64 b1) (.int .u64 b2) (.int .u64 b3) wx ∧ Holds4 (w.heap.size + 1 + 1) (.int .u64 c0) (.int .u64 c1) (.int .u64 c2) (.int .u64 c3) wx ∧ Holds4 w1.heap.size (.int .u64 s0) (.int .u64 s1) (.int .u64 s2) (.int .u64 s3) wx)) wx → (Instr.loadAt 24 (.pointer (some ⟨w1.heap.size, 0, none⟩))).run Tryd.prog wx = .ok Vs wx := fun wx hC => by rw [Es.out]; exact load4 _ hC.2.2.2.2.2
  have hCba : ∀ wx, (ClG w w1.heap.size (fun wx => Holds4 w.heap.size (.int .u64 a0) (.int .u64 a1) (.int .u64 a2) (.int .u64 a3) wx ∧ Holds4 (w.heap.size + 1) (.int .u64 b0) (.int .u64 b1) (.int .u64 b2) (.int .u64 b3) wx ∧ Holds4 (w.heap.size + 1 + 1) (.int .u64 c0) (.int .u64 c1) (.int .u64 c2) (.int .u64 c3) wx ∧ Holds4 w1.heap.size (.int .u64 s0) (.int .u64 s1) (.int .u64 s2) (.int .u64 s3) wx)) wx → Calls Tryd.prog 13 #[Vb, Va] wx fun e w' => e = .returned Vs ∧ (ClG w w1.heap.size (fun wx => Holds4 w.heap.size (.int .u64 a0) (.int .u64 a1) (.int .u64 a2) (.int .u64 a3) wx ∧ Holds4 (w.heap.size + 1) (.int .u64 b0) (.int .u64 b1) (.int .u64 b2) (.int .u64 b3) wx ∧ Holds4 (w.heap.size + 1 + 1) (.int .u64 c0) (.int .u64 c1) (.int .u64 c2) (.int .u64 c3) wx ∧ Holds4 w1.heap.size (.int .u64 s0) (.int .u64 s1) (.int .u64 s2) (.int .u64 s3) wx)) w' := fun wx hC => (Hba.out wx).mono fun _ _ h => ⟨h.1, hC.below hkeep h.2⟩
  have hCsb : ∀ wx, (ClG w w1.heap.size (fun wx => Holds4 w.heap.size (.int .u64 a0) (.int .u64 a1) (.int .u64 a2) (.int .u64 a3) wx ∧ Holds4 (w.heap.size + 1) (.int .u64 b0) (.int .u64 b1) (.int .u64 b2) (.int .u64 b3) wx ∧ Holds4 (w.heap.size + 1 + 1) (.int .u64 c0) (.int .u64 c1) (.int .u64 c2) (.int .u64 c3) wx ∧ Holds4 w1.heap.size (.int .u64 s0) (.int .u64 s1) (.int .u64 s2) (.int .u64 s3) wx)) wx → Calls Tryd.prog 15 #[Vs, Vb] wx fun e w' => e = .returned Va ∧ (ClG w w1.heap.size (fun wx => Holds4 w.heap.size (.int .u64 a0) (.int .u64 a1) (.int .u64 a2) (.int .u64 a3) wx ∧ Holds4 (w.heap.size + 1) (.int .u64 b0) (.int .u64 b1) (.int .u64 b2) (.int .u64 b3) wx ∧ Holds4 (w.heap.size + 1 + 1) (.int .u64 c0) (.int .u64 c1) (.int .u64 c2) (.int .u64 c3) wx ∧ Holds4 w1.heap.size (.int .u64 s0) (.int .u64 s1) (.int .u64 s2) (.int .u64 s3) wx)) w' := fun wx hC => (Hsb.out wx).mono fun _ _ h => ⟨h.1, hC.below hkeep h.2⟩
  have hCsc : ∀ wx, (ClG w w1.heap.size (fun wx => Holds4 w.heap.size (.int .u64 a0) (.int .u64 a1) (.int .u64 a2) (.int .u64 a3) wx ∧ Holds4 (w.heap.size + 1) (.int .u64 b0) (.int .u64 b1) (.int .u64 b2) (.int .u64 b3) wx ∧ Holds4 (w.heap.size + 1 + 1) (.int .u64 c0) (.int .u64 c1) (.int .u64 c2) (.int .u64 c3) wx ∧ Holds4 w1.heap.size (.int .u64 s0) (.int .u64 s1) (.int .u64 s2) (.int .u64 s3) wx)) wx → Calls Tryd.prog 13 #[Vs, Vc] wx fun e w' => e = .returned Vt ∧ (ClG w w1.heap.size (fun wx => Holds4 w.heap.size (.int .u64 a0) (.int .u64 a1) (.int .u64 a2) (.int .u64 a3) wx ∧ Holds4 (w.heap.size + 1) (.int .u64 b0) (.int .u64 b1) (.int .u64 b2) (.int .u64 b3) wx ∧ Holds4 (w.heap.size + 1 + 1) (.int .u64 c0) (.int .u64 c1) (.int .u64 c2) (.int .u64 c3) wx ∧ Holds4 w1.heap.size (.int .u64 s0) (.int .u64 s1) (.int .u64 s2) (.int .u64 s3) wx)) w' := fun wx hC => (Hsc.out wx).mono fun _ _ h => ⟨h.1, hC.below hkeep h.2⟩
  have hCbc : ∀ wx, (ClG w w1.heap.size (fun wx => Holds4 w.heap.size (.int .u64 a0) (.int .u64 a1) (.int .u64 a2) (.int .u64 a3) wx ∧ Holds4 (w.heap.size + 1) (.int .u64 b0) (.int .u64 b1) (.int .u64 b2) (.int .u64 b3) wx ∧ Holds4 (w.heap.size + 1 + 1) (.int .u64 c0) (.int .u64 c1) (.int .u64 c2) (.int .u64 c3) wx ∧ Holds4 w1.heap.size (.int .u64 s0) (.int .u64 s1) (.int .u64 s2) (.int .u64 s3) wx)) wx → Calls Tryd.prog 13 #[Vb, Vc] wx fun e w' => e = .returned Vu ∧ (ClG w w1.heap.size (fun wx => Holds4 w.heap.size (.int .u64 a0) (.int .u64 a1) (.int .u64 a2) (.int .u64 a3) wx ∧ Holds4 (w.heap.size + 1) (.int .u64 b0) (.int .u64 b1) (.int .u64 b2) (.int .u64 b3) wx ∧ Holds4 (w.heap.size + 1 + 1) (.int .u64 c0) (.int .u64 c1) (.int .u64 c2) (.int .u64 c3) wx ∧ Holds4 w1.heap.size (.int .u64 s0) (.int .u64 s1) (.int .u64 s2) (.int .u64 s3) wx)) w' := fun wx hC => (Hbc.out wx).mono fun _ _ h => ⟨h.1, hC.below hkeep h.2⟩
  have hCau : ∀ wx, (ClG w w1.heap.size (fun wx => Holds4 w.heap.size (.int .u64 a0) (.int .u64 a1) (.int .u64 a2) (.int .u64 a3) wx ∧ Holds4 (w.heap.size + 1) (.int .u64 b0) (.int .u64 b1) (.int .u64 b2) (.int .u64 b3) wx ∧ Holds4 (w.heap.size + 1 + 1) (.int .u64 c0) (.int .u64 c1) (.int .u64 c2) (.int .u64 c3) wx ∧ Holds4 w1.heap.size (.int .u64 s0) (.int .u64 s1) (.int .u64 s2) (.int .u64 s3) wx)) wx → Calls Tryd.prog 13 #[Va, Vu] wx fun e w' => e = .returned Vt ∧ (ClG w w1.heap.size (fun wx => Holds4 w.heap.size (.int .u64 a0) (.int .u64 a1) (.int .u64 a2) (.int .u64 a3) wx ∧ Holds4 (w.heap.size + 1) (.int .u64 b0) (.int .u64 b1) (.int .u64 b2) (.int .u64 b3) wx ∧ Holds4 (w.heap.size + 1 + 1) (.int .u64 c0) (.int .u64 c1) (.int .u64 c2) (.int .u64 c3) wx ∧ Holds4 w1.heap.size (.int .u64 s0) (.int .u64 s1) (.int .u64 s2) (.int .u64 s3) wx)) w' := fun wx hC => (Hau.out wx).mono fun _ _ h => ⟨h.1, hC.below hkeep h.2⟩
  have hCmab : ∀ wx, (ClG w w1.heap.size (fun wx => Holds4 w.heap.size (.int .u64 a0) (.int .u64 a1) (.int .u64 a2) (.int .u64 a3) wx ∧ Holds4 (w.heap.size + 1) (.int .u64 b0) (.int .u64 b1) (.int .u64 b2) (.int .u64 b3) wx ∧ Holds4 (w.heap.size + 1 + 1) (.int .u64 c0) (.int .u64 c1) (.int .u64 c2) (.int .u64 c3) wx ∧ Holds4 w1.heap.size (.int .u64 s0) (.int .u64 s1) (.int .u64 s2) (.int .u64 s3) wx)) wx → Calls Tryd.prog 17 #[Va, Vb] wx fun e w' => e = .returned Vm ∧ (ClG w w1.heap.size (fun wx => Holds4 w.heap.size (.int .u64 a0) (.int .u64 a1) (.int .u64 a2) (.int .u64 a3) wx ∧ Holds4 (w.heap.size + 1) (.int .u64 b0) (.int .u64 b1) (.int .u64 b2) (.int .u64 b3) wx ∧ Holds4 (w.heap.size + 1 + 1) (.int .u64 c0) (.int .u64 c1) (.int .u64 c2) (.int .u64 c3) wx ∧ Holds4 w1.heap.size (.int .u64 s0) (.int .u64 s1) (.int .u64 s2) (.int .u64 s3) wx)) w' := fun wx hC => (Hmab.out wx).mono fun _ _ h => ⟨h.1, hC.below hkeep h.2⟩
  have hCmba : ∀ wx, (ClG w w1.heap.size (fun wx => Holds4 w.heap.size (.int .u64 a0) (.int .u64 a1) (.int .u64 a2) (.int .u64 a3) wx ∧ Holds4 (w.heap.size + 1) (.int .u64 b0) (.int .u64 b1) (.int .u64 b2) (.int .u64 b3) wx ∧ Holds4 (w.heap.size + 1 + 1) (.int .u64 c0) (.int .u64 c1) (.int .u64 c2) (.int .u64 c3) wx ∧ Holds4 w1.heap.size (.int .u64 s0) (.int .u64 s1) (.int .u64 s2) (.int .u64 s3) wx)) wx → Calls Tryd.prog 17 #[Vb, Va] wx fun e w' => e = .returned Vm ∧ (ClG w w1.heap.size (fun wx => Holds4 w.heap.size (.int .u64 a0) (.int .u64 a1) (.int .u64 a2) (.int .u64 a3) wx ∧ Holds4 (w.heap.size + 1) (.int .u64 b0) (.int .u64 b1) (.int .u64 b2) (.int .u64 b3) wx ∧ Holds4 (w.heap.size + 1 + 1) (.int .u64 c0) (.int .u64 c1) (.int .u64 c2) (.int .u64 c3) wx ∧ Holds4 w1.heap.size (.int .u64 s0) (.int .u64 s1) (.int .u64 s2) (.int .u64 s3) wx)) w' := fun wx hC => (Hmba.out wx).mono fun _ _ h => ⟨h.1, hC.below hkeep h.2⟩
  have hCmmc : ∀ wx, (ClG w w1.heap.size (fun wx => Holds4 w.heap.size (.int .u64 a0) (.int .u64 a1) (.int .u64 a2) (.int .u64 a3) wx ∧ Holds4 (w.heap.size + 1) (.int .u64 b0) (.int .u64 b1) (.int .u64 b2) (.int .u64 b3) wx ∧ Holds4 (w.heap.size + 1 + 1) (.int .u64 c0) (.int .u64 c1) (.int .u64 c2) (.int .u64 c3) wx ∧ Holds4 w1.heap.size (.int .u64 s0) (.int .u64 s1) (.int .u64 s2) (.int .u64 s3) wx)) wx → Calls Tryd.prog 17 #[Vm, Vc] wx fun e w' => e = .returned Vp ∧ (ClG w w1.heap.size (fun wx => Holds4 w.heap.size (.int .u64 a0) (.int .u64 a1) (.int .u64 a2) (.int .u64 a3) wx ∧ Holds4 (w.heap.size + 1) (.int .u64 b0) (.int .u64 b1) (.int .u64 b2) (.int .u64 b3) wx ∧ Holds4 (w.heap.size + 1 + 1) (.int .u64 c0) (.int .u64 c1) (.int .u64 c2) (.int .u64 c3) wx ∧ Holds4 w1.heap.size (.int .u64 s0) (.int .u64 s1) (.int .u64 s2) (.int .u64 s3) wx)) w' := fun wx hC => (Hmmc.out wx).mono fun _ _ h => ⟨h.1, hC.below hkeep h.2⟩
  have hCmbc : ∀ wx, (ClG w w1.heap.size (fun wx => Holds4 w.heap.size (.int .u64 a0) (.int .u64 a1) (.int .u64 a2) (.int .u64 a3) wx ∧ Holds4 (w.heap.size + 1) (.int .u64 b0) (.int .u64 b1) (.int .u64 b2) (.int .u64 b3) wx ∧ Holds4 (w.heap.size + 1 + 1) (.int .u64 c0) (.int .u64 c1) (.int .u64 c2) (.int .u64 c3) wx ∧ Holds4 w1.heap.size (.int .u64 s0) (.int .u64 s1) (.int .u64 s2) (.int .u64 s3) wx)) wx → Calls Tryd.prog 17 #[Vb, Vc] wx fun e w' => e = .returned Vq ∧ (ClG w w1.heap.size (fun wx => Holds4 w.heap.size (.int .u64 a0) (.int .u64 a1) (.int .u64 a2) (.int .u64 a3) wx ∧ Holds4 (w.heap.size + 1) (.int .u64 b0) (.int .u64 b1) (.int .u64 b2) (.int .u64 b3) wx ∧ Holds4 (w.heap.size + 1 + 1) (.int .u64 c0) (.int .u64 c1) (.int .u64 c2) (.int .u64 c3) wx ∧ Holds4 w1.heap.size (.int .u64 s0) (.int .u64 s1) (.int .u64 s2) (.int .u64 s3) wx)) w' := fun wx hC => (Hmbc.out wx).mono fun _ _ h => ⟨h.1, hC.below hkeep h.2⟩
  have hCmaq : ∀ wx, (ClG w w1.heap.size (fun wx => Holds4 w.heap.size (.int .u64 a0) (.int .u64 a1) (.int .u64 a2) (.int .u64 a3) wx ∧ Holds4 (w.heap.size + 1) (.int .u64 b0) (.int .u64 b1) (.int .u64 b2) (.int .u64 b3) wx ∧ Holds4 (w.heap.size + 1 + 1) (.int .u64 c0) (.int .u64 c1) (.int .u64 c2) (.int .u64 c3) wx ∧ Holds4 w1.heap.size (.int .u64 s0) (.int .u64 s1) (.int .u64 s2) (.int .u64 s3) wx)) wx → Calls Tryd.prog 17 #[Va, Vq] wx fun e w' => e = .returned Vp ∧ (ClG w w1.heap.size (fun wx => Holds4 w.heap.size (.int .u64 a0) (.int .u64 a1) (.int .u64 a2) (.int .u64 a3) wx ∧ Holds4 (w.heap.size + 1) (.int .u64 b0) (.int .u64 b1) (.int .u64 b2) (.int .u64 b3) wx ∧ Holds4 (w.heap.size + 1 + 1) (.int .u64 c0) (.int .u64 c1) (.int .u64 c2) (.int .u64 c3) wx ∧ Holds4 w1.heap.size (.int .u64 s0) (.int .u64 s1) (.int .u64 s2) (.int .u64 s3) wx)) w' := fun wx hC => (Hmaq.out wx).mono fun _ _ h => ⟨h.1, hC.below hkeep h.2⟩
  have hCmsc : ∀ wx, (ClG w w1.heap.size (fun wx => Holds4 w.heap.size (.int .u64 a0) (.int .u64 a1) (.int .u64 a2) (.int .u64 a3) wx ∧ Holds4 (w.heap.size + 1) (.int .u64 b0) (.int .u64 b1) (.int .u64 b2) (.int .u64 b3) wx ∧ Holds4 (w.heap.size + 1 + 1) (.int .u64 c0) (.int .u64 c1) (.int .u64 c2) (.int .u64 c3) wx ∧ Holds4 w1.heap.size (.int .u64 s0) (.int .u64 s1) (.int .u64 s2) (.int .u64 s3) wx)) wx → Calls Tryd.prog 17 #[Vs, Vc] wx fun e w' => e = .returned Vv ∧ (ClG w w1.heap.size (fun wx => Holds4 w.heap.size (.int .u64 a0) (.int .u64 a1) (.int .u64 a2) (.int .u64 a3) wx ∧ Holds4 (w.heap.size + 1) (.int .u64 b0) (.int .u64 b1) (.int .u64 b2) (.int .u64 b3) wx ∧ Holds4 (w.heap.size + 1 + 1) (.int .u64 c0) (.int .u64 c1) (.int .u64 c2) (.int .u64 c3) wx ∧ Holds4 w1.heap.size (.int .u64 s0) (.int .u64 s1) (.int .u64 s2) (.int .u64 s3) wx)) w' := fun wx hC => (Hmsc.out wx).mono fun _ _ h => ⟨h.1, hC.below hkeep h.2⟩
  have hCmac : ∀ wx, (ClG w w1.heap.size (fun wx => Holds4 w.heap.size (.int .u64 a0) (.int .u64 a1) (.int .u64 a2) (.int .u64 a3) wx ∧ Holds4 (w.heap.size + 1) (.int .u64 b0) (.int .u64 b1) (.int .u64 b2) (.int .u64 b3) wx ∧ Holds4 (w.heap.size + 1 + 1) (.int .u64 c0) (.int .u64 c1) (.int .u64 c2) (.int .u64 c3) wx ∧ Holds4 w1.heap.size (.int .u64 s0) (.int .u64 s1) (.int .u64 s2) (.int .u64 s3) wx)) wx → Calls Tryd.prog 17 #[Va, Vc] wx fun e w' => e = .returned Vx ∧ (ClG w w1.heap.size (fun wx => Holds4 w.heap.size (.int .u64 a0) (.int .u64 a1) (.int .u64 a2) (.int .u64 a3) wx ∧ Holds4 (w.heap.size + 1) (.int .u64 b0) (.int .u64 b1) (.int .u64 b2) (.int .u64 b3) wx ∧ Holds4 (w.heap.size + 1 + 1) (.int .u64 c0) (.int .u64 c1) (.int .u64 c2) (.int .u64 c3) wx ∧ Holds4 w1.heap.size (.int .u64 s0) (.int .u64 s1) (.int .u64 s2) (.int .u64 s3) wx)) w' := fun wx hC => (Hmac.out wx).mono fun _ _ h => ⟨h.1, hC.below hkeep h.2⟩
  have hCxq : ∀ wx, (ClG w w1.heap.size (fun wx => Holds4 w.heap.size (.int .u64 a0) (.int .u64 a1) (.int .u64 a2) (.int .u64 a3) wx ∧ Holds4 (w.heap.size + 1) (.int .u64 b0) (.int .u64 b1) (.int .u64 b2) (.int .u64 b3) wx ∧ Holds4 (w.heap.size + 1 + 1) (.int .u64 c0) (.int .u64 c1) (.int .u64 c2) (.int .u64 c3) wx ∧ Holds4 w1.heap.size (.int .u64 s0) (.int .u64 s1) (.int .u64 s2) (.int .u64 s3) wx)) wx → Calls Tryd.prog 13 #[Vx, Vq] wx fun e w' => e = .returned Vv ∧ (ClG w w1.heap.size (fun wx => Holds4 w.heap.size (.int .u64 a0) (.int .u64 a1) (.int .u64 a2) (.int .u64 a3) wx ∧ Holds4 (w.heap.size + 1) (.int .u64 b0) (.int .u64 b1) (.int .u64 b2) (.int .u64 b3) wx ∧ Holds4 (w.heap.size + 1 + 1) (.int .u64 c0) (.int .u64 c1) (.int .u64 c2) (.int .u64 c3) wx ∧ Holds4 w1.heap.size (.int .u64 s0) (.int .u64 s1) (.int .u64 s2) (.int .u64 s3) wx)) w' := fun wx hC => (Hxq.out wx).mono fun _ _ h => ⟨h.1, hC.below hkeep h.2⟩
  have hClv : ∀ wx, (ClG w w1.heap.size (fun wx => Holds4 w.heap.size (.int .u64 a0) (.int .u64 a1) (.int .u64 a2) (.int .u64 a3) wx ∧ Holds4 (w.heap.size + 1) (.int .u64 b0) (.int .u64 b1) (.int .u64 b2) (.int .u64 b3) wx ∧ Holds4 (w.heap.size + 1 + 1) (.int .u64 c0) (.int .u64 c1) (.int .u64 c2) (.int .u64 c3) wx ∧ Holds4 w1.heap.size (.int .u64 s0) (.int .u64 s1) (.int .u64 s2) (.int .u64 s3) wx)) wx → Calls Tryd.prog 19 #[] wx fun e w' => e = .returned (.bool true) ∧ (ClG w w1.heap.size (fun wx => Holds4 w.heap.size (.int .u64 a0) (.int .u64 a1) (.int .u64 a2) (.int .u64 a3) wx ∧ Holds4 (w.heap.size + 1) (.int .u64 b0) (.int .u64 b1) (.int .u64 b2) (.int .u64 b3) wx ∧ Holds4 (w.heap.size + 1 + 1) (.int .u64 c0) (.int .u64 c1) (.int .u64 c2) (.int .u64 c3) wx ∧ Holds4 w1.heap.size (.int .u64 s0) (.int .u64 s1) (.int .u64 s2) (.int .u64 s3) wx)) w' := fun wx hC => (Hlv.out wx).mono fun _ _ h => ⟨h.1, hC.below hkeep h.2⟩
  have HLa := Lib.hid hLa; clear hLa
  have HLb := Lib.hid hLb; clear hLb
  have HLc := Lib.hid hLc; clear hLc
  have HLs := Lib.hid hLs; clear hLs
  have HCba := Lib.hid hCba; clear hCba
  have HCsb := Lib.hid hCsb; clear hCsb
  have HCsc := Lib.hid hCsc; clear hCsc
  have HCbc := Lib.hid hCbc; clear hCbc
  have HCau := Lib.hid hCau; clear hCau
  have HCmab := Lib.hid hCmab; clear hCmab
  have HCmba := Lib.hid hCmba; clear hCmba
  have HCmmc := Lib.hid hCmmc; clear hCmmc
  have HCmbc := Lib.hid hCmbc; clear hCmbc
  have HCmaq := Lib.hid hCmaq; clear hCmaq
  have HCmsc := Lib.hid hCmsc; clear hCmsc
  have HCmac := Lib.hid hCmac; clear hCmac
  have HCxq := Lib.hid hCxq; clear hCxq
  have HClv := Lib.hid hClv; clear hClv
  clear hkeep
  have HCL := Lib.hid hcl; clear hcl
  clear hB1 ac0 ac1 ac2 ac3 bc0 bc1 bc2 bc3 cc0 cc1 cc2 cc3 z1 z2 z3
  go_wp2_with fail
  refine wp_region_quiet (C := (ClG w w1.heap.size (fun wx => Holds4 w.heap.size (.int .u64 a0) (.int .u64 a1) (.int .u64 a2) (.int .u64 a3) wx ∧ Holds4 (w.heap.size + 1) (.int .u64 b0) (.int .u64 b1) (.int .u64 b2) (.int .u64 b3) wx ∧ Holds4 (w.heap.size + 1 + 1) (.int .u64 c0) (.int .u64 c1) (.int .u64 c2) (.int .u64 c3) wx ∧ Holds4 w1.heap.size (.int .u64 s0) (.int .u64 s1) (.int .u64 s2) (.int .u64 s3) wx))) (by kernel_rfl) (by kernel_rfl) (HCL.out.drew (fun _ h => h)) ?_
  with_reducible refine q_load 24 (.tmp 7) (.pointer (some ⟨w1.heap.size, 0, none⟩)) (Vs) rfl (by kernel_rfl) (by kernel_rfl) HLs.out ?_
  with_reducible refine q_load 24 (.tmp 4) (.pointer (some ⟨w.heap.size + 1, 0, none⟩)) (Vb) rfl (by kernel_rfl) (by kernel_rfl) HLb.out ?_
  with_reducible refine q_load 24 (.tmp 3) (.pointer (some ⟨w.heap.size, 0, none⟩)) (Va) rfl (by kernel_rfl) (by kernel_rfl) HLa.out ?_
  with_reducible refine q_call 13 #[Vb, Va] (Vs) (by kernel_rfl) (fun _ => by kernel_rfl) HCba.out ?_
  with_reducible refine q_bin .eql 24 _ _ 24 (Vs) (Vs) (.bool true) rfl (by kernel_rfl) (by kernel_rfl) (by kernel_rfl) (Hgs.out _ _) Hqs.out ?_
  with_reducible refine q_val (.bool true) (by kernel_rfl) (fun _ _ => by kernel_rfl) ?_
  with_reducible refine q_load 24 (.tmp 7) (.pointer (some ⟨w1.heap.size, 0, none⟩)) (Vs) rfl (by kernel_rfl) (by kernel_rfl) HLs.out ?_
  with_reducible refine q_load 24 (.tmp 4) (.pointer (some ⟨w.heap.size + 1, 0, none⟩)) (Vb) rfl (by kernel_rfl) (by kernel_rfl) HLb.out ?_
  with_reducible refine q_call 15 #[Vs, Vb] (Va) (by kernel_rfl) (fun _ => by kernel_rfl) HCsb.out ?_
  with_reducible refine q_load 24 (.tmp 3) (.pointer (some ⟨w.heap.size, 0, none⟩)) (Va) rfl (by kernel_rfl) (by kernel_rfl) HLa.out ?_
  with_reducible refine q_bin .eql 24 _ _ 24 (Va) (Va) (.bool true) rfl (by kernel_rfl) (by kernel_rfl) (by kernel_rfl) (Hga.out _ _) Hqa.out ?_
  with_reducible refine q_val (.bool true) (by kernel_rfl) (fun _ _ => by kernel_rfl) ?_
  with_reducible refine q_val (.bool true) (by kernel_rfl) (fun _ _ => by kernel_rfl) ?_
  with_reducible refine q_load 24 (.tmp 7) (.pointer (some ⟨w1.heap.size, 0, none⟩)) (Vs) rfl (by kernel_rfl) (by kernel_rfl) HLs.out ?_
  with_reducible refine q_load 24 (.tmp 5) (.pointer (some ⟨w.heap.size + 1 + 1, 0, none⟩)) (Vc) rfl (by kernel_rfl) (by kernel_rfl) HLc.out ?_
  with_reducible refine q_call 13 #[Vs, Vc] (Vt) (by kernel_rfl) (fun _ => by kernel_rfl) HCsc.out ?_
  with_reducible refine q_load 24 (.tmp 3) (.pointer (some ⟨w.heap.size, 0, none⟩)) (Va) rfl (by kernel_rfl) (by kernel_rfl) HLa.out ?_
  with_reducible refine q_load 24 (.tmp 4) (.pointer (some ⟨w.heap.size + 1, 0, none⟩)) (Vb) rfl (by kernel_rfl) (by kernel_rfl) HLb.out ?_
  with_reducible refine q_load 24 (.tmp 5) (.pointer (some ⟨w.heap.size + 1 + 1, 0, none⟩)) (Vc) rfl (by kernel_rfl) (by kernel_rfl) HLc.out ?_
  with_reducible refine q_call 13 #[Vb, Vc] (Vu) (by kernel_rfl) (fun _ => by kernel_rfl) HCbc.out ?_
  with_reducible refine q_call 13 #[Va, Vu] (Vt) (by kernel_rfl) (fun _ => by kernel_rfl) HCau.out ?_
  with_reducible refine q_bin .eql 24 _ _ 24 (Vt) (Vt) (.bool true) rfl (by kernel_rfl) (by kernel_rfl) (by kernel_rfl) (Hgt.out _ _) Hqt.out ?_
  with_reducible refine q_val (.bool true) (by kernel_rfl) (fun _ _ => by kernel_rfl) ?_
  with_reducible refine q_val (.bool true) (by kernel_rfl) (fun _ _ => by kernel_rfl) ?_
  with_reducible refine q_load 24 (.tmp 3) (.pointer (some ⟨w.heap.size, 0, none⟩)) (Va) rfl (by kernel_rfl) (by kernel_rfl) HLa.out ?_
  with_reducible refine q_load 24 (.tmp 4) (.pointer (some ⟨w.heap.size + 1, 0, none⟩)) (Vb) rfl (by kernel_rfl) (by kernel_rfl) HLb.out ?_
  with_reducible refine q_call 17 #[Va, Vb] (Vm) (by kernel_rfl) (fun _ => by kernel_rfl) HCmab.out ?_
  with_reducible refine q_load 24 (.tmp 4) (.pointer (some ⟨w.heap.size + 1, 0, none⟩)) (Vb) rfl (by kernel_rfl) (by kernel_rfl) HLb.out ?_
  with_reducible refine q_load 24 (.tmp 3) (.pointer (some ⟨w.heap.size, 0, none⟩)) (Va) rfl (by kernel_rfl) (by kernel_rfl) HLa.out ?_
  with_reducible refine q_call 17 #[Vb, Va] (Vm) (by kernel_rfl) (fun _ => by kernel_rfl) HCmba.out ?_
  with_reducible refine q_bin .eql 24 _ _ 24 (Vm) (Vm) (.bool true) rfl (by kernel_rfl) (by kernel_rfl) (by kernel_rfl) (Hgm.out _ _) Hqm.out ?_
  with_reducible refine q_val (.bool true) (by kernel_rfl) (fun _ _ => by kernel_rfl) ?_
  with_reducible refine q_val (.bool true) (by kernel_rfl) (fun _ _ => by kernel_rfl) ?_
  with_reducible refine q_load 24 (.tmp 3) (.pointer (some ⟨w.heap.size, 0, none⟩)) (Va) rfl (by kernel_rfl) (by kernel_rfl) HLa.out ?_
  with_reducible refine q_load 24 (.tmp 4) (.pointer (some ⟨w.heap.size + 1, 0, none⟩)) (Vb) rfl (by kernel_rfl) (by kernel_rfl) HLb.out ?_
  with_reducible refine q_call 17 #[Va, Vb] (Vm) (by kernel_rfl) (fun _ => by kernel_rfl) HCmab.out ?_
  with_reducible refine q_load 24 (.tmp 5) (.pointer (some ⟨w.heap.size + 1 + 1, 0, none⟩)) (Vc) rfl (by kernel_rfl) (by kernel_rfl) HLc.out ?_
  with_reducible refine q_call 17 #[Vm, Vc] (Vp) (by kernel_rfl) (fun _ => by kernel_rfl) HCmmc.out ?_
  with_reducible refine q_load 24 (.tmp 3) (.pointer (some ⟨w.heap.size, 0, none⟩)) (Va) rfl (by kernel_rfl) (by kernel_rfl) HLa.out ?_
  with_reducible refine q_load 24 (.tmp 4) (.pointer (some ⟨w.heap.size + 1, 0, none⟩)) (Vb) rfl (by kernel_rfl) (by kernel_rfl) HLb.out ?_
  with_reducible refine q_load 24 (.tmp 5) (.pointer (some ⟨w.heap.size + 1 + 1, 0, none⟩)) (Vc) rfl (by kernel_rfl) (by kernel_rfl) HLc.out ?_
  with_reducible refine q_call 17 #[Vb, Vc] (Vq) (by kernel_rfl) (fun _ => by kernel_rfl) HCmbc.out ?_
  with_reducible refine q_call 17 #[Va, Vq] (Vp) (by kernel_rfl) (fun _ => by kernel_rfl) HCmaq.out ?_
  with_reducible refine q_bin .eql 24 _ _ 24 (Vp) (Vp) (.bool true) rfl (by kernel_rfl) (by kernel_rfl) (by kernel_rfl) (Hgp.out _ _) Hqp.out ?_
  with_reducible refine q_val (.bool true) (by kernel_rfl) (fun _ _ => by kernel_rfl) ?_
  with_reducible refine q_val (.bool true) (by kernel_rfl) (fun _ _ => by kernel_rfl) ?_
  with_reducible refine q_load 24 (.tmp 7) (.pointer (some ⟨w1.heap.size, 0, none⟩)) (Vs) rfl (by kernel_rfl) (by kernel_rfl) HLs.out ?_
  with_reducible refine q_load 24 (.tmp 5) (.pointer (some ⟨w.heap.size + 1 + 1, 0, none⟩)) (Vc) rfl (by kernel_rfl) (by kernel_rfl) HLc.out ?_
  with_reducible refine q_call 17 #[Vs, Vc] (Vv) (by kernel_rfl) (fun _ => by kernel_rfl) HCmsc.out ?_
  with_reducible refine q_load 24 (.tmp 3) (.pointer (some ⟨w.heap.size, 0, none⟩)) (Va) rfl (by kernel_rfl) (by kernel_rfl) HLa.out ?_
  with_reducible refine q_load 24 (.tmp 5) (.pointer (some ⟨w.heap.size + 1 + 1, 0, none⟩)) (Vc) rfl (by kernel_rfl) (by kernel_rfl) HLc.out ?_
  with_reducible refine q_call 17 #[Va, Vc] (Vx) (by kernel_rfl) (fun _ => by kernel_rfl) HCmac.out ?_
  with_reducible refine q_load 24 (.tmp 4) (.pointer (some ⟨w.heap.size + 1, 0, none⟩)) (Vb) rfl (by kernel_rfl) (by kernel_rfl) HLb.out ?_
  with_reducible refine q_load 24 (.tmp 5) (.pointer (some ⟨w.heap.size + 1 + 1, 0, none⟩)) (Vc) rfl (by kernel_rfl) (by kernel_rfl) HLc.out ?_
  with_reducible refine q_call 17 #[Vb, Vc] (Vq) (by kernel_rfl) (fun _ => by kernel_rfl) HCmbc.out ?_
  with_reducible refine q_call 13 #[Vx, Vq] (Vv) (by kernel_rfl) (fun _ => by kernel_rfl) HCxq.out ?_
  with_reducible refine q_bin .eql 24 _ _ 24 (Vv) (Vv) (.bool true) rfl (by kernel_rfl) (by kernel_rfl) (by kernel_rfl) (Hgv.out _ _) Hqv.out ?_
  with_reducible refine q_val (.bool true) (by kernel_rfl) (fun _ _ => by kernel_rfl) ?_
  with_reducible refine q_val (.bool true) (by kernel_rfl) (fun _ _ => by kernel_rfl) ?_
  with_reducible refine q_call 19 #[] (.bool true) (by kernel_rfl) (fun _ => by kernel_rfl) HClv.out ?_
  with_reducible refine q_val (.bool true) (by kernel_rfl) (fun _ _ => by kernel_rfl) ?_
  with_reducible refine q_val (.bool true) (by kernel_rfl) (fun _ _ => by kernel_rfl) ?_
  with_reducible refine wpQuiet_nil ?_
  intro wx hC
  have hB := hC.1
  clear hC
  generalize hA : Act.put _ _ _ = A
  have h6 : A.tmps.getD 6 undef = Value.bool true := by subst hA; kernel_rfl
  have hd : A.defers = [] := by subst hA; kernel_rfl
  clear hA
  go_wp2
  (try simp only [Exit.inBlock, Exit.then])
  refine bodyPost_ret (v := .bool true) (by rw [results_tmp rfl _ _ _, h6]) hd ⟨rfl, hB⟩
end Go.Proofs.YthfadinocadhaaaDoor

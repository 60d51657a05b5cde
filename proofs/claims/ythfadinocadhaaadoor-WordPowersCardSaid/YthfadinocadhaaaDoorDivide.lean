/- What word.divide comes to for one part by a greater one that has its highest bit: nothing, and that part. -/
import Derived.Test.YthfadinocadhaaaDoorStep
import Derived.Test.YthfadinocadhaaaDoorShls
import Derived.Test.YthfadinocadhaaaDoorNot
import Derived.Test.YthfadinocadhaaaDoorRaise
import Derived.Test.YthfadinocadhaaaDoorWiden
import Derived.Deep.DeepCutAuto
import Derived.Laws.Rows
import Derived.Test.YthfadinocadhaaaDoorTail
namespace Go.Proofs.YthfadinocadhaaaDoor
open Go.RowKit

/-- The divisor's block behind the fifth statement. -/
def CutD (w W : World) (h b : Nat) (v : Value) (wx : World) : Prop :=
  ∃ D : Nat, v = .pointer (some ⟨D, 0, none⟩) ∧ h ≤ D ∧ D < wx.heap.size ∧ Below h W wx ∧ Below w.heap.size w wx ∧ wx.cell? ⟨D, 0, none⟩ = some (.int .u64 b)

theorem cutD_mk {w W wx : World} {h b D : Nat} (h1 : h ≤ D) (h2 : D < wx.heap.size) (h3 : Below h W wx) (h4 : Below w.heap.size w W) (h6 : w.heap.size ≤ h) (h5 : wx.cell? ⟨D, 0, none⟩ = some (.int .u64 b)) : CutD w W h b (.pointer (some ⟨D, 0, none⟩)) wx :=
  ⟨D, rfl, h1, h2, h3, h4.trans (h3.mono h6), h5⟩

theorem after4k {W w1 : World} {P : Prop} (b : Nat) (hb : Below W.heap.size W w1) (hB : b < W.heap.size)
    (c0 : W.cell? ⟨b, 0, none⟩ = some (.int .u64 0)) (c1 : W.cell? ⟨b, 1, none⟩ = some (.int .u64 0)) (c2 : W.cell? ⟨b, 2, none⟩ = some (.int .u64 0)) (c3 : W.cell? ⟨b, 3, none⟩ = some (.int .u64 0))
    (f0 : W.frozen? ⟨b, 0, none⟩ = false) (f1 : W.frozen? ⟨b, 1, none⟩ = false) (f2 : W.frozen? ⟨b, 2, none⟩ = false) (f3 : W.frozen? ⟨b, 3, none⟩ = false)
    (k : (w1.cell? ⟨b, 0, none⟩ = some (.int .u64 0) ∧ w1.cell? ⟨b, 1, none⟩ = some (.int .u64 0) ∧ w1.cell? ⟨b, 2, none⟩ = some (.int .u64 0) ∧ w1.cell? ⟨b, 3, none⟩ = some (.int .u64 0)) →
      (w1.frozen? ⟨b, 0, none⟩ = false ∧ w1.frozen? ⟨b, 1, none⟩ = false ∧ w1.frozen? ⟨b, 2, none⟩ = false ∧ w1.frozen? ⟨b, 3, none⟩ = false) → b < w1.heap.size → P) : P := by
  obtain ⟨q, f, z, -⟩ := after4 (B := 0) b hb (Below.refl _ _) (Nat.zero_le _) hB c0 c1 c2 c3 f0 f1 f2 f3
  exact k q f z

/-- Block b is o. -/
def Is (w : World) (b : Nat) (o : Obj) : Prop := w.heap[b]? = some o
theorem Is.new {w : World} {b : Nat} (o : Obj) (h : b = w.heap.size) : Is (w.alloc o) b o := by subst h; exact heap_alloc_new w o
theorem Is.lt {w : World} {b : Nat} {o : Obj} (h : Is w b o) : b < w.heap.size := by
  rcases Nat.lt_or_ge b w.heap.size with h' | h'
  · exact h'
  · unfold Is at h; simp [Array.getElem?_eq_none h'] at h
theorem Is.alloc {w : World} {b : Nat} {o : Obj} (h : Is w b o) (o' : Obj) : Is (w.alloc o') b o := (Below.heap_alloc w o' b h.lt).trans h
theorem Is.below {w w' : World} {b B : Nat} {o : Obj} (h : Is w b o) (hb : Below B w w') (hB : b < B) : Is w' b o := (hb.block b hB).trans h
theorem Is.but {w w' : World} {b S : Nat} {o : Obj} (h : Is w b o) (hb : But S w w') (hS : b ≠ S) : Is w' b o := (hb.block b hS).trans h
theorem Is.set {w : World} {b : Nat} {o : Obj} (h : Is w b o) {p : Addr} (hp : b ≠ p.block) (u : Value) : Is (w.setCell p u) b o := (Below.heap_setCell w p u b hp).trans h
theorem Is.z8 {w : World} {b : Nat} {t : TypeId} (h : Is w b (.cells #[.int .u64 0, .int .u64 0, .int .u64 0, .int .u64 0, .int .u64 0, .int .u64 0, .int .u64 0, .int .u64 0] t)) : (w.cell? ⟨b, 0, none⟩ = some (.int .u64 0) ∧ w.cell? ⟨b, 1, none⟩ = some (.int .u64 0) ∧ w.cell? ⟨b, 2, none⟩ = some (.int .u64 0) ∧ w.cell? ⟨b, 3, none⟩ = some (.int .u64 0) ∧ w.cell? ⟨b, 4, none⟩ = some (.int .u64 0) ∧ w.cell? ⟨b, 5, none⟩ = some (.int .u64 0) ∧ w.cell? ⟨b, 6, none⟩ = some (.int .u64 0) ∧ w.cell? ⟨b, 7, none⟩ = some (.int .u64 0)) ∧ (w.frozen? ⟨b, 0, none⟩ = false ∧ w.frozen? ⟨b, 1, none⟩ = false ∧ w.frozen? ⟨b, 2, none⟩ = false ∧ w.frozen? ⟨b, 3, none⟩ = false ∧ w.frozen? ⟨b, 4, none⟩ = false ∧ w.frozen? ⟨b, 5, none⟩ = false ∧ w.frozen? ⟨b, 6, none⟩ = false ∧ w.frozen? ⟨b, 7, none⟩ = false) := by
  unfold Is at h
  simp [World.cell?, World.frozen?, h]
theorem Is.z4 {w : World} {b : Nat} {t : TypeId} (h : Is w b (.cells #[.int .u64 0, .int .u64 0, .int .u64 0, .int .u64 0] t)) : (w.cell? ⟨b, 0, none⟩ = some (.int .u64 0) ∧ w.cell? ⟨b, 1, none⟩ = some (.int .u64 0) ∧ w.cell? ⟨b, 2, none⟩ = some (.int .u64 0) ∧ w.cell? ⟨b, 3, none⟩ = some (.int .u64 0)) ∧ (w.frozen? ⟨b, 0, none⟩ = false ∧ w.frozen? ⟨b, 1, none⟩ = false ∧ w.frozen? ⟨b, 2, none⟩ = false ∧ w.frozen? ⟨b, 3, none⟩ = false) := by
  unfold Is at h
  simp [World.cell?, World.frozen?, h]

theorem Is.set0 {w : World} {b : Nat} {t : TypeId} (h : Is w b (.cells #[.int .u64 0, .int .u64 0, .int .u64 0, .int .u64 0, .int .u64 0, .int .u64 0, .int .u64 0, .int .u64 0] t)) : Is (w.setCell ⟨b, 0, none⟩ (.int .u64 0)) b (.cells #[.int .u64 0, .int .u64 0, .int .u64 0, .int .u64 0, .int .u64 0, .int .u64 0, .int .u64 0, .int .u64 0] t) := by
  unfold Is at h ⊢
  simp [World.setCell, Array.getElem?_modify, h]

/-- The worlds of the last statement. -/
def ClR (w : World) (r4 r5 S Q x : Nat) (wx : World) : Prop := Below w.heap.size w wx ∧ Is wx r4 (.cells #[.int .u64 0, .int .u64 0, .int .u64 0, .int .u64 0, .int .u64 0, .int .u64 0, .int .u64 0, .int .u64 0] 58) ∧ Is wx r5 (.cells #[.int .u64 0, .int .u64 0, .int .u64 0, .int .u64 0] 24) ∧ Is wx Q (.cells #[.int .u64 0, .int .u64 0, .int .u64 0, .int .u64 0, .int .u64 0, .int .u64 0, .int .u64 0, .int .u64 0] 58) ∧ wx.cell? ⟨S, 0, none⟩ = some (.int .u64 x) ∧ wx.cell? ⟨S, 1, none⟩ = some (.int .u64 0) ∧ wx.cell? ⟨S, 2, none⟩ = some (.int .u64 0) ∧ wx.cell? ⟨S, 3, none⟩ = some (.int .u64 0) ∧ S < wx.heap.size
theorem ClR.below {w wx w' : World} {r4 r5 S Q x : Nat} (h : ClR w r4 r5 S Q x wx) (hb : Below wx.heap.size wx w') : ClR w r4 r5 S Q x w' := by
  obtain ⟨h0, h1, h2, h3, c0, c1, c2, c3, hs⟩ := h
  exact ⟨h0.trans (hb.mono h0.size), h1.below hb h1.lt, h2.below hb h2.lt, h3.below hb h3.lt, (hb.cell hs).trans c0, (hb.cell hs).trans c1, (hb.cell hs).trans c2, (hb.cell hs).trans c3, Nat.lt_of_lt_of_le hs hb.size⟩

/-- What one round of the long quotient leaves where the rest is one part below the divisor. -/
def OnePost (S x : Nat) (w : World) (e : Ending) (w' : World) : Prop :=
  e = .returned (.int .u64 0) ∧ But S w w' ∧ w'.cell? ⟨S, 0, none⟩ = some (.int .u64 x) ∧ w'.cell? ⟨S, 1, none⟩ = some (.int .u64 0) ∧ w'.cell? ⟨S, 2, none⟩ = w.cell? ⟨S, 2, none⟩ ∧ w'.cell? ⟨S, 3, none⟩ = w.cell? ⟨S, 3, none⟩

set_option maxRecDepth 100000 in
set_option maxHeartbeats 4000000 in
theorem divide_one (x b : Nat) (w : World)
    (hP : ∀ (B : Nat) (w : World), w.cell? ⟨B, 0, none⟩ = some (.int .u64 b) → w.cell? ⟨B, 1, none⟩ = some (.int .u64 0) → w.cell? ⟨B, 2, none⟩ = some (.int .u64 0) → w.cell? ⟨B, 3, none⟩ = some (.int .u64 0) →
      Calls Tryd.prog 94 #[.slice (some ⟨B, 0, none⟩) 4 4] w fun e w' => e = .returned (.int .i64 1) ∧ w = w')
    (hL : ∀ w, Calls Tryd.prog 95 #[.int .u64 b] w fun e w' => e = .returned (.int .i64 0) ∧ w = w')
    (hShl : ∀ w, Calls Tryd.prog 37 #[.agg #[.int .u64 0, .int .u64 0, .int .u64 0, .int .u64 0], .agg #[.int .u64 b, .int .u64 0, .int .u64 0, .int .u64 0]] w fun e w' => e = .returned (.agg #[.int .u64 b, .int .u64 0, .int .u64 0, .int .u64 0]) ∧ Below w.heap.size w w')
    (hR : ∀ w, Calls Tryd.prog 96 #[.agg #[.int .u64 x, .int .u64 0, .int .u64 0, .int .u64 0, .int .u64 0, .int .u64 0, .int .u64 0, .int .u64 0], .int .i64 0] w fun e w' => e = .returned (.agg #[.int .u64 x, .int .u64 0, .int .u64 0, .int .u64 0, .int .u64 0, .int .u64 0, .int .u64 0, .int .u64 0, .int .u64 0]) ∧ Below w.heap.size w w')
    (hPa : ∀ (B : Nat) (w : World), w.cell? ⟨B, 0, none⟩ = some (.int .u64 x) → w.cell? ⟨B, 1, none⟩ = some (.int .u64 0) → w.cell? ⟨B, 2, none⟩ = some (.int .u64 0) → w.cell? ⟨B, 3, none⟩ = some (.int .u64 0) → w.cell? ⟨B, 4, none⟩ = some (.int .u64 0) → w.cell? ⟨B, 5, none⟩ = some (.int .u64 0) → w.cell? ⟨B, 6, none⟩ = some (.int .u64 0) → w.cell? ⟨B, 7, none⟩ = some (.int .u64 0) →
      Calls Tryd.prog 94 #[.slice (some ⟨B, 0, none⟩) 8 8] w fun e w' => e = .returned (.int .i64 1) ∧ w = w')
    (hSt : ∀ (S D : Nat) (w : World), D ≠ S → w.cell? ⟨S, 0, none⟩ = some (.int .u64 x) → w.cell? ⟨S, 1, none⟩ = some (.int .u64 0) → w.frozen? ⟨S, 0, none⟩ = false → w.frozen? ⟨S, 1, none⟩ = false → w.cell? ⟨D, 0, none⟩ = some (.int .u64 b) →
      Calls Tryd.prog 97 #[.slice (some ⟨S, 0, none⟩) 2 9, .slice (some ⟨D, 0, none⟩) 1 4] w (OnePost S x w))
    (hSr : ∀ w, Calls Tryd.prog 39 #[.agg #[.int .u64 0, .int .u64 0, .int .u64 0, .int .u64 0], .agg #[.int .u64 x, .int .u64 0, .int .u64 0, .int .u64 0]] w fun e w' => e = .returned (.agg #[.int .u64 x, .int .u64 0, .int .u64 0, .int .u64 0]) ∧ Below w.heap.size w w') :
    Calls Tryd.prog 74 #[.agg #[.int .u64 x, .int .u64 0, .int .u64 0, .int .u64 0, .int .u64 0, .int .u64 0, .int .u64 0, .int .u64 0], .agg #[.int .u64 b, .int .u64 0, .int .u64 0, .int .u64 0]] w fun e w' =>
      e = .returned (.tuple #[.agg #[.int .u64 0, .int .u64 0, .int .u64 0, .int .u64 0, .int .u64 0, .int .u64 0, .int .u64 0, .int .u64 0], .agg #[.int .u64 x, .int .u64 0, .int .u64 0, .int .u64 0]]) ∧ Below w.heap.size w w' := by
  have HPa := Lib.hid hPa; clear hPa
  have HST := Lib.hid hSt; clear hSt
  have HSR := Lib.hid hSr; clear hSr
  have i4 : Is ((((w.alloc (.cells #[.int .u64 x, .int .u64 0, .int .u64 0, .int .u64 0, .int .u64 0, .int .u64 0, .int .u64 0, .int .u64 0] 58)).alloc (.cells #[.int .u64 b, .int .u64 0, .int .u64 0, .int .u64 0] 24)).alloc (.cells #[.int .u64 0, .int .u64 0, .int .u64 0, .int .u64 0, .int .u64 0, .int .u64 0, .int .u64 0, .int .u64 0] 58)).alloc (.cells #[.int .u64 0, .int .u64 0, .int .u64 0, .int .u64 0] 24)) (w.heap.size + 1 + 1) (.cells #[.int .u64 0, .int .u64 0, .int .u64 0, .int .u64 0, .int .u64 0, .int .u64 0, .int .u64 0, .int .u64 0] 58) := (Is.new _ (by simp)).alloc _
  have i5 : Is ((((w.alloc (.cells #[.int .u64 x, .int .u64 0, .int .u64 0, .int .u64 0, .int .u64 0, .int .u64 0, .int .u64 0, .int .u64 0] 58)).alloc (.cells #[.int .u64 b, .int .u64 0, .int .u64 0, .int .u64 0] 24)).alloc (.cells #[.int .u64 0, .int .u64 0, .int .u64 0, .int .u64 0, .int .u64 0, .int .u64 0, .int .u64 0, .int .u64 0] 58)).alloc (.cells #[.int .u64 0, .int .u64 0, .int .u64 0, .int .u64 0] 24)) (w.heap.size + 1 + 1 + 1) (.cells #[.int .u64 0, .int .u64 0, .int .u64 0, .int .u64 0] 24) := Is.new _ (by simp)
  have I4 := Lib.hid i4; clear i4
  have I5 := Lib.hid i5; clear i5
  have HP := Lib.hid hP; clear hP
  have HSH := Lib.hid hShl; clear hShl
  have HR := Lib.hid hR; clear hR
  have hof : ∀ w, Calls Tryd.prog 57 #[.int .u64 0] w fun e w' => e = .returned (.agg #[.int .u64 0, .int .u64 0, .int .u64 0, .int .u64 0]) ∧ w.alloc (.cells #[.int .u64 0, .int .u64 0, .int .u64 0, .int .u64 0] 24) = w' := fun w => of_exact 0 w
  have HOF := Lib.hid hof; clear hof
  have h0 : Below w.heap.size w ((((w.alloc (.cells #[.int .u64 x, .int .u64 0, .int .u64 0, .int .u64 0, .int .u64 0, .int .u64 0, .int .u64 0, .int .u64 0] 58)).alloc (.cells #[.int .u64 b, .int .u64 0, .int .u64 0, .int .u64 0] 24)).alloc (.cells #[.int .u64 0, .int .u64 0, .int .u64 0, .int .u64 0, .int .u64 0, .int .u64 0, .int .u64 0, .int .u64 0] 58)).alloc (.cells #[.int .u64 0, .int .u64 0, .int .u64 0, .int .u64 0] 24)) := by go_grown
  have H0 := Lib.hid h0; clear h0
  go_enter Tryd.func74, Tryd.ntmps74
  go_wp2_with fail
  refine (HP.out (w.heap.size + 1) ((((w.alloc (.cells #[.int .u64 x, .int .u64 0, .int .u64 0, .int .u64 0, .int .u64 0, .int .u64 0, .int .u64 0, .int .u64 0] 58)).alloc (.cells #[.int .u64 b, .int .u64 0, .int .u64 0, .int .u64 0] 24)).alloc (.cells #[.int .u64 0, .int .u64 0, .int .u64 0, .int .u64 0, .int .u64 0, .int .u64 0, .int .u64 0, .int .u64 0] 58)).alloc (.cells #[.int .u64 0, .int .u64 0, .int .u64 0, .int .u64 0] 24)) (by go_cell) (by go_cell) (by go_cell) (by go_cell)).mono ?_
  rintro e w' ⟨rfl, rfl⟩
  go_wp2_with fail
  refine (hL _).mono ?_
  rintro e w' ⟨rfl, rfl⟩
  go_wp2_with fail
  go_cut [8] (fun v wx => CutD w ((((w.alloc (.cells #[.int .u64 x, .int .u64 0, .int .u64 0, .int .u64 0, .int .u64 0, .int .u64 0, .int .u64 0, .int .u64 0] 58)).alloc (.cells #[.int .u64 b, .int .u64 0, .int .u64 0, .int .u64 0] 24)).alloc (.cells #[.int .u64 0, .int .u64 0, .int .u64 0, .int .u64 0, .int .u64 0, .int .u64 0, .int .u64 0, .int .u64 0] 58)).alloc (.cells #[.int .u64 0, .int .u64 0, .int .u64 0, .int .u64 0] 24)) (w.heap.size + 1 + 1 + 1 + 1) b v wx)
  case first =>
    go_region_with (first | (go_at_call 57; refine (HOF.out _).mono ?_; rintro e w' ⟨rfl, rfl⟩) | (go_at_call 37; refine (HSH.out _).mono ?_; rintro e w' ⟨rfl, hb⟩; (try (refine after4k (w.heap.size + 1 + 1 + 1 + 1) hb ?_ ?_ ?_ ?_ ?_ ?_ ?_ ?_ ?_ ?_; (focus (first | (simp; done) | (simp; omega))); (focus (go_cell; done)); (focus (go_cell; done)); (focus (go_cell; done)); (focus (go_cell; done)); (focus (go_cell; done)); (focus (go_cell; done)); (focus (go_cell; done)); (focus (go_cell; done)); rintro ⟨q0, q1, q2, q3⟩ ⟨fq0, fq1, fq2, fq3⟩ zq)); (try (refine after4k (w.heap.size + 1 + 1 + 1 + 1 + 1) hb ?_ ?_ ?_ ?_ ?_ ?_ ?_ ?_ ?_ ?_; (focus (first | (simp; done) | (simp; omega))); (focus (go_cell; done)); (focus (go_cell; done)); (focus (go_cell; done)); (focus (go_cell; done)); (focus (go_cell; done)); (focus (go_cell; done)); (focus (go_cell; done)); (focus (go_cell; done)); rintro ⟨r0, r1, r2, r3⟩ ⟨fr0, fr1, fr2, fr3⟩ zr))))
    all_goals go_wp2_with fail
    all_goals go_meet
    all_goals
      have hbs := hb.size
      have hb2 : Below (w.heap.size + 1 + 1 + 1 + 1) ((((w.alloc (.cells #[.int .u64 x, .int .u64 0, .int .u64 0, .int .u64 0, .int .u64 0, .int .u64 0, .int .u64 0, .int .u64 0] 58)).alloc (.cells #[.int .u64 b, .int .u64 0, .int .u64 0, .int .u64 0] 24)).alloc (.cells #[.int .u64 0, .int .u64 0, .int .u64 0, .int .u64 0, .int .u64 0, .int .u64 0, .int .u64 0, .int .u64 0] 58)).alloc (.cells #[.int .u64 0, .int .u64 0, .int .u64 0, .int .u64 0] 24)) w' := Below.trans (by go_grown) (hb.mono (by first | (simp; done) | (simp; omega)))
      simp at hbs
      refine cutD_mk ?_ ?_ ?_ H0.out (by omega) ?_
      · first | omega | (simp; omega)
      · first | omega | (simp; done) | (simp; omega)
      · go_grown
      · go_cell
  case rest =>
    obtain ⟨D, rfl, hD1, hD2, hB1, hB2, cD⟩ := hcut
    have a0 : wc.cell? ⟨w.heap.size, 0, none⟩ = some (.int .u64 x) := (hB1.cell (p := ⟨w.heap.size, 0, none⟩) (by simp; omega)).trans (by go_cell)
    have a1 : wc.cell? ⟨w.heap.size, 1, none⟩ = some (.int .u64 0) := (hB1.cell (p := ⟨w.heap.size, 1, none⟩) (by simp; omega)).trans (by go_cell)
    have a2 : wc.cell? ⟨w.heap.size, 2, none⟩ = some (.int .u64 0) := (hB1.cell (p := ⟨w.heap.size, 2, none⟩) (by simp; omega)).trans (by go_cell)
    have a3 : wc.cell? ⟨w.heap.size, 3, none⟩ = some (.int .u64 0) := (hB1.cell (p := ⟨w.heap.size, 3, none⟩) (by simp; omega)).trans (by go_cell)
    have a4 : wc.cell? ⟨w.heap.size, 4, none⟩ = some (.int .u64 0) := (hB1.cell (p := ⟨w.heap.size, 4, none⟩) (by simp; omega)).trans (by go_cell)
    have a5 : wc.cell? ⟨w.heap.size, 5, none⟩ = some (.int .u64 0) := (hB1.cell (p := ⟨w.heap.size, 5, none⟩) (by simp; omega)).trans (by go_cell)
    have a6 : wc.cell? ⟨w.heap.size, 6, none⟩ = some (.int .u64 0) := (hB1.cell (p := ⟨w.heap.size, 6, none⟩) (by simp; omega)).trans (by go_cell)
    have a7 : wc.cell? ⟨w.heap.size, 7, none⟩ = some (.int .u64 0) := (hB1.cell (p := ⟨w.heap.size, 7, none⟩) (by simp; omega)).trans (by go_cell)
    go_wp2_with fail
    refine (HR.out _).mono ?_
    rintro e w2 ⟨rfl, hb⟩
    have hsz : wc.heap.size ≤ w2.heap.size := hb.size
    have g0 : w2.cell? ⟨w.heap.size, 0, none⟩ = some (.int .u64 x) := (hb.cell (p := ⟨w.heap.size, 0, none⟩) (by show w.heap.size < wc.heap.size; omega)).trans a0
    have g1 : w2.cell? ⟨w.heap.size, 1, none⟩ = some (.int .u64 0) := (hb.cell (p := ⟨w.heap.size, 1, none⟩) (by show w.heap.size < wc.heap.size; omega)).trans a1
    have g2 : w2.cell? ⟨w.heap.size, 2, none⟩ = some (.int .u64 0) := (hb.cell (p := ⟨w.heap.size, 2, none⟩) (by show w.heap.size < wc.heap.size; omega)).trans a2
    have g3 : w2.cell? ⟨w.heap.size, 3, none⟩ = some (.int .u64 0) := (hb.cell (p := ⟨w.heap.size, 3, none⟩) (by show w.heap.size < wc.heap.size; omega)).trans a3
    have g4 : w2.cell? ⟨w.heap.size, 4, none⟩ = some (.int .u64 0) := (hb.cell (p := ⟨w.heap.size, 4, none⟩) (by show w.heap.size < wc.heap.size; omega)).trans a4
    have g5 : w2.cell? ⟨w.heap.size, 5, none⟩ = some (.int .u64 0) := (hb.cell (p := ⟨w.heap.size, 5, none⟩) (by show w.heap.size < wc.heap.size; omega)).trans a5
    have g6 : w2.cell? ⟨w.heap.size, 6, none⟩ = some (.int .u64 0) := (hb.cell (p := ⟨w.heap.size, 6, none⟩) (by show w.heap.size < wc.heap.size; omega)).trans a6
    have g7 : w2.cell? ⟨w.heap.size, 7, none⟩ = some (.int .u64 0) := (hb.cell (p := ⟨w.heap.size, 7, none⟩) (by show w.heap.size < wc.heap.size; omega)).trans a7
    have gD : w2.cell? ⟨D, 0, none⟩ = some (.int .u64 b) := (hb.cell (p := ⟨D, 0, none⟩) (by show D < wc.heap.size; omega)).trans cD
    have J4 := Lib.hid ((I4.out.below hB1 (by omega)).below hb (by omega))
    have J5 := Lib.hid ((I5.out.below hB1 (by omega)).below hb (by omega))
    have hB3 : Below w.heap.size w w2 := hB2.trans (hb.mono (by omega))
    clear hb hB1 hB2 a0 a1 a2 a3 a4 a5 a6 a7 cD
    have hDlt : D < w2.heap.size := by omega
    have hwlt : w.heap.size < w2.heap.size := by omega
    go_wp2_with fail
    refine (HPa.out w.heap.size ((w2.alloc (.cells #[.int .u64 x, .int .u64 0, .int .u64 0, .int .u64 0, .int .u64 0, .int .u64 0, .int .u64 0, .int .u64 0, .int .u64 0] 88)).alloc (.cells #[.int .u64 0, .int .u64 0, .int .u64 0, .int .u64 0, .int .u64 0, .int .u64 0, .int .u64 0, .int .u64 0] 58)) (by go_cell) (by go_cell) (by go_cell) (by go_cell) (by go_cell) (by go_cell) (by go_cell) (by go_cell)).mono ?_
    rintro e w' ⟨rfl, rfl⟩
    clear g0 g1 g2 g3 g4 g5 g6 g7
    go_wp2_with fail
    refine wp_loop_rounds 3 ?_
    rw [rounds_succ]; go_wp2_with fail
    have u1 : IntKind.i64.wrap 1 = 1 := rfl
    have u2 : IntKind.i64.wrap 2 = 2 := rfl
    have hcall := HST.out w2.heap.size D ((w2.alloc (.cells #[.int .u64 x, .int .u64 0, .int .u64 0, .int .u64 0, .int .u64 0, .int .u64 0, .int .u64 0, .int .u64 0, .int .u64 0] 88)).alloc (.cells #[.int .u64 0, .int .u64 0, .int .u64 0, .int .u64 0, .int .u64 0, .int .u64 0, .int .u64 0, .int .u64 0] 58)).drew (by omega) (by go_cell) (by go_cell) (by go_cell) (by go_cell) (by go_cell)
    have hne : w2.heap.size + 1 ≠ w2.heap.size := by omega
    have iq : Is ((w2.alloc (.cells #[.int .u64 x, .int .u64 0, .int .u64 0, .int .u64 0, .int .u64 0, .int .u64 0, .int .u64 0, .int .u64 0, .int .u64 0] 88)).alloc (.cells #[.int .u64 0, .int .u64 0, .int .u64 0, .int .u64 0, .int .u64 0, .int .u64 0, .int .u64 0, .int .u64 0] 58)).drew (w2.heap.size + 1) (.cells #[.int .u64 0, .int .u64 0, .int .u64 0, .int .u64 0, .int .u64 0, .int .u64 0, .int .u64 0, .int .u64 0] 58) := Is.new (w := w2.alloc (.cells #[.int .u64 x, .int .u64 0, .int .u64 0, .int .u64 0, .int .u64 0, .int .u64 0, .int .u64 0, .int .u64 0, .int .u64 0] 88)) _ (by simp)
    have HCA := Lib.hid hcall; clear hcall
    have IQ := Lib.hid iq; clear iq
    have HNE := Lib.hid hne; clear hne
    go_region_with (go_at_call 97; refine HCA.out.mono ?_; rintro e w3 ⟨rfl, hbut, s0, s1, s2, s3⟩; obtain ⟨⟨q0, q1, q2, q3, q4, q5, q6, q7⟩, ⟨f0, -⟩⟩ := (IQ.out.but hbut HNE.out).z8)
    have t2 : w3.cell? ⟨w2.heap.size, 2, none⟩ = some (.int .u64 0) := s2.trans (by go_cell)
    have t3 : w3.cell? ⟨w2.heap.size, 3, none⟩ = some (.int .u64 0) := s3.trans (by go_cell)
    clear s2 s3
    go_wp2_with fail
    rw [rounds_succ]; go_wp2_with fail
    have z3 : w3.heap.size = w2.heap.size + 1 + 1 := by have h := hbut.size; simpa using h
    have hl4 : w.heap.size + 1 + 1 < w2.heap.size := J4.out.lt
    have hl5 : w.heap.size + 1 + 1 + 1 < w2.heap.size := J5.out.lt
    have ne4 : w.heap.size + 1 + 1 ≠ w2.heap.size := by omega
    have ne5 : w.heap.size + 1 + 1 + 1 ≠ w2.heap.size := by omega
    have g4 : Is (w3.setCell ⟨w2.heap.size + 1, 0, none⟩ (.int .u64 0)).drew (w.heap.size + 1 + 1) (.cells #[.int .u64 0, .int .u64 0, .int .u64 0, .int .u64 0, .int .u64 0, .int .u64 0, .int .u64 0, .int .u64 0] 58) := (Is.but (w := ((w2.alloc (.cells #[.int .u64 x, .int .u64 0, .int .u64 0, .int .u64 0, .int .u64 0, .int .u64 0, .int .u64 0, .int .u64 0, .int .u64 0] 88)).alloc (.cells #[.int .u64 0, .int .u64 0, .int .u64 0, .int .u64 0, .int .u64 0, .int .u64 0, .int .u64 0, .int .u64 0] 58)).drew) ((J4.out.alloc _).alloc _) hbut ne4).set (p := ⟨w2.heap.size + 1, 0, none⟩) (by show w.heap.size + 1 + 1 ≠ w2.heap.size + 1; omega) _
    have g5 : Is (w3.setCell ⟨w2.heap.size + 1, 0, none⟩ (.int .u64 0)).drew (w.heap.size + 1 + 1 + 1) (.cells #[.int .u64 0, .int .u64 0, .int .u64 0, .int .u64 0] 24) := (Is.but (w := ((w2.alloc (.cells #[.int .u64 x, .int .u64 0, .int .u64 0, .int .u64 0, .int .u64 0, .int .u64 0, .int .u64 0, .int .u64 0, .int .u64 0] 88)).alloc (.cells #[.int .u64 0, .int .u64 0, .int .u64 0, .int .u64 0, .int .u64 0, .int .u64 0, .int .u64 0, .int .u64 0] 58)).drew) ((J5.out.alloc _).alloc _) hbut ne5).set (p := ⟨w2.heap.size + 1, 0, none⟩) (by show w.heap.size + 1 + 1 + 1 ≠ w2.heap.size + 1; omega) _
    have gq : Is (w3.setCell ⟨w2.heap.size + 1, 0, none⟩ (.int .u64 0)).drew (w2.heap.size + 1) (.cells #[.int .u64 0, .int .u64 0, .int .u64 0, .int .u64 0, .int .u64 0, .int .u64 0, .int .u64 0, .int .u64 0] 58) := (IQ.out.but hbut HNE.out).set0
    have hB5 : Below w.heap.size w (w3.setCell ⟨w2.heap.size + 1, 0, none⟩ (.int .u64 0)).drew := ((But.below (w := ((w2.alloc (.cells #[.int .u64 x, .int .u64 0, .int .u64 0, .int .u64 0, .int .u64 0, .int .u64 0, .int .u64 0, .int .u64 0, .int .u64 0] 88)).alloc (.cells #[.int .u64 0, .int .u64 0, .int .u64 0, .int .u64 0, .int .u64 0, .int .u64 0, .int .u64 0, .int .u64 0] 58)).drew) (hB3.trans (Below.mono (B := w2.heap.size) (by go_grown) (by omega))) hbut (by omega)).setCell (by show w.heap.size ≤ w2.heap.size + 1; omega) _).drew
    have zq : w2.heap.size < w3.heap.size := by omega
    have G4 := Lib.hid g4; clear g4
    have G5 := Lib.hid g5; clear g5
    have GQ := Lib.hid gq; clear gq
    have HB5 := Lib.hid hB5; clear hB5
    clear z3 ne4 ne5
    clear q0 q1 q2 q3 q4 q5 q6 q7 f0
    have hat := arrayAt4
    have hcl : ClR w (w.heap.size + 1 + 1) (w.heap.size + 1 + 1 + 1) w2.heap.size (w2.heap.size + 1) x (w3.setCell ⟨w2.heap.size + 1, 0, none⟩ (.int .u64 0)).drew := ⟨HB5.out, G4.out, G5.out, GQ.out, (by go_cell), (by go_cell), (by go_cell), (by go_cell), (by show w2.heap.size < (w3.setCell ⟨w2.heap.size + 1, 0, none⟩ (.int .u64 0)).heap.size; simp; exact zq)⟩
    refine region_quiet_tail 8 (ClR w (w.heap.size + 1 + 1) (w.heap.size + 1 + 1 + 1) w2.heap.size (w2.heap.size + 1) x) (by kernel_rfl) (by kernel_rfl) hcl ?_
    simp only [List.take_succ_cons, List.take_zero, List.drop_succ_cons, List.drop_zero]
    clear hcl
    refine wpQuiet_step (fun K hK => ?_)
    rw [if_pos (by rfl)]
    refine ⟨.agg #[.int .u64 0, .int .u64 0, .int .u64 0, .int .u64 0, .int .u64 0, .int .u64 0, .int .u64 0, .int .u64 0], fun wx hC => ?_, hK _ ?_⟩
    · obtain ⟨-, -, -, h3, -, -, -, -, -⟩ := hC
      obtain ⟨⟨q0, q1, q2, q3, q4, q5, q6, q7⟩, -⟩ := h3.z8
      go_simp
    clear hK K
    refine wpQuiet_step (fun K hK => ?_)
    go_simp
    refine ⟨_, fun _ _ => rfl, hK _ ?_⟩
    clear hK K
    refine wpQuiet_step (fun K hK => ?_)
    go_simp
    refine ⟨_, fun _ _ => rfl, hK _ ?_⟩
    clear hK K
    refine wpQuiet_step (fun K hK => ?_)
    rw [if_pos (by rfl)]
    refine ⟨.agg #[.int .u64 0, .int .u64 0, .int .u64 0, .int .u64 0], fun wx hC => ?_, hK _ ?_⟩
    · go_simp
      refine (HOF.out _).mono ?_
      rintro e w' ⟨rfl, rfl⟩
      exact ⟨rfl, hC.below (by go_grown)⟩
    clear hK K
    refine wpQuiet_step (fun K hK => ?_)
    go_simp
    refine ⟨_, fun _ _ => rfl, hK _ ?_⟩
    clear hK K
    refine wpQuiet_step (fun K hK => ?_)
    go_simp
    refine ⟨_, fun _ _ => rfl, hK _ ?_⟩
    clear hK K
    refine wpQuiet_step (fun K hK => ?_)
    rw [if_pos (by rfl)]
    refine ⟨.agg #[.int .u64 x, .int .u64 0, .int .u64 0, .int .u64 0], fun wx hC => ?_, hK _ ?_⟩
    · obtain ⟨-, -, -, -, c0, c1, c2, c3, -⟩ := hC
      go_simp
    clear hK K
    refine wpQuiet_step (fun K hK => ?_)
    rw [if_pos (by rfl)]
    refine ⟨.agg #[.int .u64 x, .int .u64 0, .int .u64 0, .int .u64 0], fun wx hC => ?_, hK _ ?_⟩
    · go_simp
      refine (HSR.out _).mono ?_
      rintro e w' ⟨rfl, hb⟩
      exact ⟨rfl, hC.below hb⟩
    clear hK K
    refine wpQuiet_nil ?_
    intro wx hC
    obtain ⟨h0, h4, h5, -, -, -, -, -, -⟩ := hC
    obtain ⟨⟨c0, c1, c2, c3, c4, c5, c6, c7⟩, ⟨e0, e1, e2, e3, e4, e5, e6, e7⟩⟩ := h4.z8
    obtain ⟨⟨k0, k1, k2, k3⟩, ⟨l0, l1, l2, l3⟩⟩ := h5.z4
    have hlt4 := h4.lt
    have hlt5 := h5.lt
    clear h4 h5
    go_wp2
    refine bodyPost_ret (by simp [results, Tryd.results74, go_sem, c0, c1, c2, c3, c4, c5, c6, c7, k0, k1, k2, k3]; try rfl) rfl ⟨rfl, ?_⟩
    go_grown
end Go.Proofs.YthfadinocadhaaaDoor

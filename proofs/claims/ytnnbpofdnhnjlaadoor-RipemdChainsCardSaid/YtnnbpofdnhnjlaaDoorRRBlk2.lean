/- RIPEMD-160: what the reference's Block comes to. -/
import Derived.Test.YtnnbpofdnhnjlaaDoorRBlock
import Derived.Test.YtnnbpofdnhnjlaaDoorRPlace
import Derived.Test.YtnnbpofdnhnjlaaDoorTail
import Derived.Test.YtnnbpofdnhnjlaaDoorQ
import Derived.StillTailTactics
import Derived.StillTactics
import Derived.Deep.RegionHeld3
import Derived.Laws.AppendOwnNone
import Derived.Lib.SliceRun
namespace Go.Proofs.YtnnbpofdnhnjlaaDoor
open Go.RowKit

theorem info_parts' {P : Program} {t : TypeId} {z : Value} {s b : Nat} (h : (P.info? t).map (fun i => (i.zero, i.size, i.bytes)) = some (some z, s, b)) : ∃ i, P.info? t = some i ∧ i.zero = some z ∧ i.size = s ∧ i.bytes = b := by
  cases hq : P.info? t with
  | none => rw [hq] at h; cases h
  | some i =>
    rw [hq] at h
    simp at h
    exact ⟨i, rfl, h.1, h.2.1, h.2.2⟩
theorem infoU : (Tryd.prog.info? 46).map (fun i => (i.zero, i.size, i.bytes)) = some (some (.int .u32 0), 1, 4) := by kernel_rfl
/-- Numbers as a list. -/
def il (f : Nat → Int) (n : Nat) : List Value := (List.range n).map fun j => .int .u32 (f j)
theorem il_len (f : Nat → Int) (n : Nat) : (il f n).length = n := by simp [il]
theorem il_at (f : Nat → Int) (n j : Nat) (h : j < n) : (il f n)[j]? = some (.int .u32 (f j)) := by simp [il, h]
theorem il_next (f : Nat → Int) (n : Nat) : il f n ++ [.int .u32 (f n)] = il f (n + 1) := by
  unfold il
  rw [List.range_succ, List.map_append]
  rfl
theorem xw_or {f : Nat → Nat} (hf : ∀ j, f j < 256) (k : Nat) : bits .or .u32 (bits .or .u32 (bits .or .u32 ((f (4 * k) : Nat) : Int) (IntKind.u32.wrap (((f (4 * k + 1) : Nat) : Int) * 256))) (IntKind.u32.wrap (((f (4 * k + 2) : Nat) : Int) * 65536))) (IntKind.u32.wrap (((f (4 * k + 3) : Nat) : Int) * 16777216)) = ((xw f k : Nat) : Int) := by
  have h1 := or_up (s := 8) (hf (4 * k + 1)) (by omega) (hf (4 * k))
  have h2 := or_up (s := 16) (hf (4 * k + 2)) (by omega) h1.2
  have h3 := or_up (s := 24) (hf (4 * k + 3)) (by omega) h2.2
  simp only [IntKind.wrap_u32]
  rw [show (256 : Int) = 2 ^ 8 from rfl, show (65536 : Int) = 2 ^ 16 from rfl, show (16777216 : Int) = 2 ^ 24 from rfl, h1.1, h2.1, h3.1]
  unfold xw bsum bsum bsum bsum bsum
  simp
/-- Where the two results lie: apart, and behind what was there. -/
structure AQ (H : Nat) (s : Nat → Value) (wx : World) : Prop where
  a6 : ∀ D, s 9 = .pointer (some ⟨D, 0, none⟩) → H ≤ D ∧ D < wx.heap.size
  a7 : ∀ D, s 10 = .pointer (some ⟨D, 0, none⟩) → H ≤ D ∧ D < wx.heap.size
  ne : ∀ D E, s 9 = .pointer (some ⟨D, 0, none⟩) → s 10 = .pointer (some ⟨E, 0, none⟩) → D ≠ E
theorem AQ.start {H : Nat} {s : Nat → Value} {wx : World} (h6 : s 9 = undef) (h7 : s 10 = undef) : AQ H s wx :=
  ⟨fun D hD => (by rw [h6] at hD; unfold undef at hD; cases hD), fun D hD => (by rw [h7] at hD; unfold undef at hD; cases hD), fun D E hD => (by rw [h6] at hD; unfold undef at hD; cases hD)⟩
theorem AQ.put {H : Nat} {s s' : Nat → Value} {wx w' : World} (h : AQ H s wx) (e6 : s' 9 = s 9) (e7 : s' 10 = s 10) (hl : wx.heap.size ≤ w'.heap.size) : AQ H s' w' :=
  ⟨fun D hD => ⟨(h.a6 D (e6 ▸ hD)).1, Nat.lt_of_lt_of_le (h.a6 D (e6 ▸ hD)).2 hl⟩, fun D hD => ⟨(h.a7 D (e7 ▸ hD)).1, Nat.lt_of_lt_of_le (h.a7 D (e7 ▸ hD)).2 hl⟩, fun D E h1 h2 => h.ne D E (e6 ▸ h1) (e7 ▸ h2)⟩
theorem AQ.new6 {H : Nat} {s s' : Nat → Value} {wx w' : World} (h : AQ H s wx) (e6 : s' 9 = .pointer (some ⟨wx.heap.size, 0, none⟩)) (e7 : s' 10 = s 10) (hH : H ≤ wx.heap.size) (hl : wx.heap.size < w'.heap.size) : AQ H s' w' :=
  ⟨fun D hD => by rw [e6] at hD; cases hD; exact ⟨hH, hl⟩, fun D hD => ⟨(h.a7 D (e7 ▸ hD)).1, Nat.lt_trans (h.a7 D (e7 ▸ hD)).2 hl⟩, fun D E h1 h2 => by rw [e6] at h1; cases h1; have := (h.a7 E (e7 ▸ h2)).2; omega⟩
theorem AQ.new7 {H : Nat} {s s' : Nat → Value} {wx w' : World} (h : AQ H s wx) (e7 : s' 10 = .pointer (some ⟨wx.heap.size, 0, none⟩)) (e6 : s' 9 = s 9) (hH : H ≤ wx.heap.size) (hl : wx.heap.size < w'.heap.size) : AQ H s' w' :=
  ⟨fun D hD => ⟨(h.a6 D (e6 ▸ hD)).1, Nat.lt_trans (h.a6 D (e6 ▸ hD)).2 hl⟩, fun D hD => by rw [e7] at hD; cases hD; exact ⟨hH, hl⟩, fun D E h1 h2 => by rw [e7] at h2; cases h2; have := (h.a6 D (e6 ▸ h1)).2; omega⟩
/-- What a step does to what was there: nothing, or one of the results is laid. -/
def RN (p q : Nat → Int) (s : Nat → Value) (wa wb : World) : Prop := (wa.heap.size ≤ wb.heap.size ∧ ∀ (k : Nat), k < wa.heap.size → wb.heap[k]? = wa.heap[k]?) ∨ ∃ (D : Nat) (cs : Array Value), (s 9 = .pointer (some ⟨D, 0, none⟩) ∧ cs = ar .u32 5 p ∨ s 10 = .pointer (some ⟨D, 0, none⟩) ∧ cs = ar .u32 5 q) ∧ wb = wa.setRow D cs
theorem RN.of {p q : Nat → Int} {s : Nat → Value} {wa wb : World} (h : Below wa.heap.size wa wb) : RN p q s wa wb := .inl ⟨h.size, fun k hk => h.block k hk⟩
theorem RN.same {p q : Nat → Int} {s : Nat → Value} (wa : World) : RN p q s wa wa := .inl ⟨Nat.le_refl _, fun _ _ => rfl⟩
theorem RN.shape {p q : Nat → Int} {D : Nat} {s : Nat → Value} {wa wb : World} (hR : RN p q s wa wb) (h : ∃ cs : Array Value, wa.heap[D]? = some (.cells cs 47 (0, 0)) ∧ cs.size = 5) : ∃ cs : Array Value, wb.heap[D]? = some (.cells cs 47 (0, 0)) ∧ cs.size = 5 := by
  obtain ⟨cs, e, hs⟩ := h
  rcases hR with ⟨-, h⟩ | ⟨E, c1, h1, rfl⟩
  · exact ⟨cs, (h D (Array.getElem?_eq_some_iff.1 e).1).trans e, hs⟩
  · by_cases q : D = E
    · subst q
      exact ⟨c1, setRow_heap _ _ _ _ _ _ e, by rcases h1 with ⟨-, rfl⟩ | ⟨-, rfl⟩ <;> exact ar_size _ _ _⟩
    · exact ⟨cs, (setRow_other _ _ _ _ q).trans e, hs⟩
theorem RN.keep6 {p q : Nat → Int} {D H : Nat} {s : Nat → Value} {wa wb : World} (hA : AQ H s wa) (hR : RN p q s wa wb) (hs : s 9 = .pointer (some ⟨D, 0, none⟩)) (e : wa.heap[D]? = some (.cells (ar .u32 5 p) 47 (0, 0))) : wb.heap[D]? = some (.cells (ar .u32 5 p) 47 (0, 0)) := by
  rcases hR with ⟨-, h⟩ | ⟨E, c1, h1, rfl⟩
  · exact (h D (Array.getElem?_eq_some_iff.1 e).1).trans e
  · rcases h1 with ⟨h1, rfl⟩ | ⟨h1, rfl⟩
    · rw [hs] at h1; cases h1; exact setRow_heap _ _ _ _ _ _ e
    · exact (setRow_other _ _ _ _ (hA.ne D E hs h1)).trans e
theorem RN.keep7 {p q : Nat → Int} {D H : Nat} {s : Nat → Value} {wa wb : World} (hA : AQ H s wa) (hR : RN p q s wa wb) (hs : s 10 = .pointer (some ⟨D, 0, none⟩)) (e : wa.heap[D]? = some (.cells (ar .u32 5 q) 47 (0, 0))) : wb.heap[D]? = some (.cells (ar .u32 5 q) 47 (0, 0)) := by
  rcases hR with ⟨-, h⟩ | ⟨E, c1, h1, rfl⟩
  · exact (h D (Array.getElem?_eq_some_iff.1 e).1).trans e
  · rcases h1 with ⟨h1, rfl⟩ | ⟨h1, rfl⟩
    · exact (setRow_other _ _ _ _ (Ne.symm (hA.ne E D h1 hs))).trans e
    · rw [hs] at h1; cases h1; exact setRow_heap _ _ _ _ _ _ e
theorem step_store_row {P : Program} {ops : Array Oper} {o : Oper} {a : Act} {w : World} {K : Act → World → Prop} {Q : Exit → Act → World → Prop} {E : Prop} (hgd : o.guard = none) (ty : TypeId) (x y : Operand) (ho : o.op = .store ty x y)
    (g : Nat) (cells : Array Value) (hx : a.eval x = .pointer (some ⟨g, 0, none⟩)) (hy : a.eval y = .agg cells)
    (t : TypeId) (old : Array Value) (hg : w.heap[g]? = some (.cells old t (0, 0))) (hi : (P.info? ty).map (·.size) = some cells.size)
    (hold : old.size = cells.size) (h1 : cells.all (·.oneCell') = true)
    (h : K (a.put o.dst undef) (w.setRow g cells)) : if Region.wanted o (yielded ops a.tmps) = true then Oper.wp P o a w K Q else E := by
  have hw : Region.wanted o (yielded ops a.tmps) = true := by simp [Region.wanted, hgd]
  rw [if_pos hw]
  exact wp_store_row ty x y ho g cells hx hy t old hg hi hold h1 h
/-- The worlds of the reference's 80 steps. -/
structure CD (w : World) (h x : Nat → Int) (g B : Nat) (wx : World) : Prop where
  old : Below w.heap.size w wx
  r0 : wx.heap[w.heap.size]? = some (.cells (ar .u32 5 h) 47 (0, 0))
  r2 : wx.heap[w.heap.size + 1 + 1]? = some (.cells #[.int .u32 0, .int .u32 0, .int .u32 0, .int .u32 0, .int .u32 0] 47 (0, 0))
  xs : ∀ j, j < 16 → wx.cell? ⟨g, j, none⟩ = some (.int .u32 (x j))
  o1 : ∀ j, j < 5 → wx.cell? ⟨B, j, none⟩ = some (.int .u32 (conT 0 j))
  o2 : ∀ j, j < 5 → wx.cell? ⟨B + 1, j, none⟩ = some (.int .u32 (conT 1 j))
  hg : g < B
  hB : w.heap.size + 1 + 1 < B
  high : B + 2 ≤ wx.heap.size
theorem CD.below {w wx w' : World} {h x : Nat → Int} {g B : Nat} (c : CD w h x g B wx) (hb : Below wx.heap.size wx w') : CD w h x g B w' := by
  have l := c.high
  have g1 := c.hg
  have g2 := c.hB
  have s := hb.size
  exact ⟨c.old.trans (hb.mono c.old.size), (hb.block _ (by omega)).trans c.r0, (hb.block _ (by omega)).trans c.r2, fun j hj => (hb.cell (p := ⟨g, j, none⟩) (by show g < wx.heap.size; omega)).trans (c.xs j hj), fun j hj => (hb.cell (p := ⟨B, j, none⟩) (by show B < wx.heap.size; omega)).trans (c.o1 j hj), fun j hj => (hb.cell (p := ⟨B + 1, j, none⟩) (by show B + 1 < wx.heap.size; omega)).trans (c.o2 j hj), g1, g2, by omega⟩
theorem below_row {w : World} {g : Nat} {cs : Array Value} : Below g w (w.setRow g cs) := below_setRow (Below.refl _ _) (Nat.le_refl _) _
theorem CD.rowed {w wx : World} {h x : Nat → Int} {g B k : Nat} {cs : Array Value} (c : CD w h x g B wx) (hk : B + 2 ≤ k) : CD w h x g B (wx.setRow k cs) := by
  have l := c.high
  have g1 := c.hg
  have g2 := c.hB
  have hb : Below k wx (wx.setRow k cs) := below_row
  have s := hb.size
  exact ⟨below_setRow c.old (by omega) _, (hb.block _ (by omega)).trans c.r0, (hb.block _ (by omega)).trans c.r2, fun j hj => (hb.cell (p := ⟨g, j, none⟩) (by show g < k; omega)).trans (c.xs j hj), fun j hj => (hb.cell (p := ⟨B, j, none⟩) (by show B < k; omega)).trans (c.o1 j hj), fun j hj => (hb.cell (p := ⟨B + 1, j, none⟩) (by show B + 1 < k; omega)).trans (c.o2 j hj), g1, g2, by omega⟩
theorem q_sem {P : Program} {ops : Array Oper} {C : World → Prop} {Q : Act → Prop} {a : Act} {o : Oper} {rest : List Oper} (s : Sem Value) (v : Value) (hw : Region.wanted o (yielded ops a.tmps) = true) (ho : execOp a.eval o = (do let x ← s; pure (.value x))) (hr : ∀ w, C w → s.run P w = .ok v w) (h : wpQuiet P ops C Q rest (a.put o.dst v)) : wpQuiet P ops C Q (o :: rest) a :=
  q_val v hw (fun w hC => by rw [ho]; simp only [Sem.run_bind, hr w hC, Result.andThen_ok, Sem.run_pure]) h
theorem at5 (g j : Nat) (hj : j < 5) (w : World) : (Instr.indexAt 47 (.pointer (some ⟨g, 0, none⟩)) (.int .i64 j)).run Tryd.prog w = .ok (.pointer (some ⟨g, j, none⟩)) w := by
  have h0 : (0 : Int) ≤ j := by omega
  have h1 : (j : Int) < 5 := by omega
  go_simp
theorem load_u32 (g j : Nat) (y : Int) (w : World) (h : w.cell? ⟨g, j, none⟩ = some (.int .u32 y)) : (Instr.loadAt 46 (.pointer (some ⟨g, j, none⟩))).run Tryd.prog w = .ok (.int .u32 y) w := by
  go_simp
/-- The worlds of a step of one line. -/
def CE (w : World) (h x : Nat → Int) (g B D E : Nat) (V U : St) (wx : World) : Prop := CD w h x g B wx ∧ wx.heap[D]? = some (.cells (ar .u32 5 (st5 V)) 47 (0, 0)) ∧ wx.heap[E]? = some (.cells (ar .u32 5 (st5 U)) 47 (0, 0))
theorem CE.below {w wx w' : World} {h x : Nat → Int} {g B D E : Nat} {V U : St} (c : CE w h x g B D E V U wx) (hb : Below wx.heap.size wx w') : CE w h x g B D E V U w' :=
  ⟨c.1.below hb, (hb.block _ (Array.getElem?_eq_some_iff.1 c.2.1).1).trans c.2.1, (hb.block _ (Array.getElem?_eq_some_iff.1 c.2.2).1).trans c.2.2⟩
theorem CE.drew {w wx : World} {h x : Nat → Int} {g B D E : Nat} {V U : St} (c : CE w h x g B D E V U wx) : CE w h x g B D E V U wx.drew := c.below (Below.drew (Below.refl _ _))
theorem CE.c1 {w wx : World} {h x : Nat → Int} {g B D E : Nat} {V U : St} (c : CE w h x g B D E V U wx) (j : Nat) (hj : j < 5) (y : Int) (hy : st5 V j = y) : (Instr.loadAt 46 (.pointer (some ⟨D, j, none⟩))).run Tryd.prog wx = .ok (.int .u32 y) wx :=
  load_u32 _ _ _ _ ((five_cells c.2.1 j hj).trans (by rw [hy]))
theorem CE.c2 {w wx : World} {h x : Nat → Int} {g B D E : Nat} {V U : St} (c : CE w h x g B D E V U wx) (j : Nat) (hj : j < 5) (y : Int) (hy : st5 U j = y) : (Instr.loadAt 46 (.pointer (some ⟨E, j, none⟩))).run Tryd.prog wx = .ok (.int .u32 y) wx :=
  load_u32 _ _ _ _ ((five_cells c.2.2 j hj).trans (by rw [hy]))
theorem CE.set1 {w wx : World} {h x : Nat → Int} {g B D E : Nat} {V U V' : St} (c : CE w h x g B D E V U wx) (hD : B + 2 ≤ D) (hne : D ≠ E) : CE w h x g B D E V' U (wx.setRow D (ar .u32 5 (st5 V'))) :=
  ⟨c.1.rowed hD, setRow_heap _ _ _ _ _ _ c.2.1, (setRow_other _ _ _ _ (Ne.symm hne)).trans c.2.2⟩
theorem CE.set2 {w wx : World} {h x : Nat → Int} {g B D E : Nat} {V U U' : St} (c : CE w h x g B D E V U wx) (hE : B + 2 ≤ E) (hne : D ≠ E) : CE w h x g B D E V U' (wx.setRow E (ar .u32 5 (st5 U'))) :=
  ⟨c.1.rowed hE, (setRow_other _ _ _ _ hne).trans c.2.1, setRow_heap _ _ _ _ _ _ c.2.2⟩
set_option maxRecDepth 100000 in
set_option maxHeartbeats 4000000 in
-- WHAT THE REFERENCE's Block COMES TO.
theorem rblock_any (h : Nat → Int) (f : Nat → Nat) (hf : ∀ j, f j < 256) (w : World) : Calls Tryd.prog 35 #[.agg (ar .u32 5 h), .agg (ar .u8 64 fun j => (f j : Nat))] w fun e w' => e = .returned (.agg (ar .u32 5 (blk h fun j => (xw f j : Nat)))) ∧ Below w.heap.size w w' := by
  have HF := Lib.hid hf; clear hf
  obtain ⟨i0, hi, hz0, hz1, hz2⟩ := info_parts' infoU
  go_enter Tryd.func35, Tryd.ntmps35
  obtain ⟨w1, hw1⟩ : ∃ w1, ((w.alloc (.cells (ar .u32 5 h) 47)).alloc (.cells (ar .u8 64 fun j => (f j : Nat)) 48)).alloc (.cells #[.int .u32 0, .int .u32 0, .int .u32 0, .int .u32 0, .int .u32 0] 47) = w1 := ⟨_, rfl⟩
  have hh := heap3 w (.cells (ar .u32 5 h) 47) (.cells (ar .u8 64 fun j => (f j : Nat)) 48) (.cells #[.int .u32 0, .int .u32 0, .int .u32 0, .int .u32 0, .int .u32 0] 47)
  have hb1 : Below w.heap.size w w1 := by rw [← hw1]; go_grown
  have hsz : w1.heap.size = w.heap.size + 3 := by rw [← hw1]; simp
  rw [hw1] at hh
  have HH := Lib.hid (And.intro hh (And.intro hb1 hsz))
  clear hh hb1 hsz
  go_wp2_with fail
  clear hw1
  go_loopw [5, 6] (fun v i wr => ∃ k : Nat, k ≤ 16 ∧ i = .int .i64 k ∧ Hid (wr.ownsRow w1.heap.size 46 1 v k (il (fun j => (xw f j : Nat)) k) ∧ Below w1.heap.size w1 wr ∧ ∃ g c, v = .slice (some ⟨g, 0, none⟩) k c)) (fun _ i _ => 16 - (intOf i).toNat)
  case atStart =>
    refine ⟨0, by omega, rfl, Lib.hid ⟨?_, by go_grown, _, _, rfl⟩⟩
    exact World.ownsRow_made (base := w1.heap.size) (e := 46) (size := 1) w1 #[] 0 (by simp) (by decide) (by simp)
  case round =>
    obtain ⟨k, hk, rfl, H⟩ := hrel
    have hk0 : (0 : Int) ≤ k := by omega
    have hk1 : (k : Int) ≤ 16 := by omega
    by_cases hlt : k < 16
    · have hlt' : (k : Int) < 16 := by omega
      have HV := Lib.hid (xw_or HF.out k)
      obtain ⟨g, c, rfl⟩ := H.out.2.2
      have hbh : wr.heap[w.heap.size + 1]? = some (.cells (ar .u8 64 fun j => (f j : Nat)) 48 (0, 0)) := (H.out.2.1.block _ (by have := HH.out.2.2; omega)).trans HH.out.1.2.1
      have HB := Lib.hid hbh
      clear hbh
      obtain ⟨y0, hy0⟩ : ∃ y, 4 * k = y := ⟨_, rfl⟩
      have e0 : 4 * (k : Int) = (y0 : Int) := by omega
      have n0 : (0 : Int) ≤ y0 := by omega
      have n1 : (y0 : Int) < 64 := by omega
      obtain ⟨y1, hy1⟩ : ∃ y, y0 + 1 = y := ⟨_, rfl⟩
      have g1 : (y0 : Int) + 1 = (y1 : Int) := by omega
      have p1 : (0 : Int) ≤ y1 := by omega
      have q1 : (y1 : Int) < 64 := by omega
      obtain ⟨y2, hy2⟩ : ∃ y, y0 + 2 = y := ⟨_, rfl⟩
      have g2 : (y0 : Int) + 2 = (y2 : Int) := by omega
      have p2 : (0 : Int) ≤ y2 := by omega
      have q2 : (y2 : Int) < 64 := by omega
      obtain ⟨y3, hy3⟩ : ∃ y, y0 + 3 = y := ⟨_, rfl⟩
      have g3 : (y0 : Int) + 3 = (y3 : Int) := by omega
      have p3 : (0 : Int) ≤ y3 := by omega
      have q3 : (y3 : Int) < 64 := by omega
      have v0 : IntKind.i64.wrap (y0 : Int) = y0 := by rw [IntKind.wrap_i64]; omega
      have v1 : IntKind.i64.wrap (y1 : Int) = y1 := by rw [IntKind.wrap_i64]; omega
      have v2 : IntKind.i64.wrap (y2 : Int) = y2 := by rw [IntKind.wrap_i64]; omega
      have v3 : IntKind.i64.wrap (y3 : Int) = y3 := by rw [IntKind.wrap_i64]; omega
      have bb := HF.out
      have f0 := bb y0
      have f1 := bb y1
      have f2 := bb y2
      have f3 := bb y3
      rw [hy0, hy1, hy2, hy3] at HV
      have c0 : wr.cell? ⟨w.heap.size + 1, y0, none⟩ = some (.int .u8 (f y0 : Nat)) := (cell_of_row wr _ y0 _ _ _ HB.out).trans (ar_at _ _ _ _ (by omega))
      have c1 : wr.cell? ⟨w.heap.size + 1, y1, none⟩ = some (.int .u8 (f y1 : Nat)) := (cell_of_row wr _ y1 _ _ _ HB.out).trans (ar_at _ _ _ _ (by omega))
      have c2 : wr.cell? ⟨w.heap.size + 1, y2, none⟩ = some (.int .u8 (f y2 : Nat)) := (cell_of_row wr _ y2 _ _ _ HB.out).trans (ar_at _ _ _ _ (by omega))
      have c3 : wr.cell? ⟨w.heap.size + 1, y3, none⟩ = some (.int .u8 (f y3 : Nat)) := (cell_of_row wr _ y3 _ _ _ HB.out).trans (ar_at _ _ _ _ (by omega))
      clear bb hy0 hy1 hy2 hy3
      obtain ⟨m0, e5⟩ : ∃ m, f y0 = m := ⟨_, rfl⟩
      obtain ⟨m1, e6⟩ : ∃ m, f y1 = m := ⟨_, rfl⟩
      obtain ⟨m2, e7⟩ : ∃ m, f y2 = m := ⟨_, rfl⟩
      obtain ⟨m3, e8⟩ : ∃ m, f y3 = m := ⟨_, rfl⟩
      rw [e5] at f0 c0 HV
      rw [e6] at f1 c1 HV
      rw [e7] at f2 c2 HV
      rw [e8] at f3 c3 HV
      clear e5 e6 e7 e8
      go_wp2_with fail
      have hbas : w1.heap.size ≤ wr.heap.size := H.out.2.1.size
      have hgl : w.heap.size + 3 ≤ g := by have := (H.out.1.lt g rfl).1; have := HH.out.2.2; omega
      have hlw : w.heap.size + 3 ≤ wr.heap.size := by have := HH.out.2.2; omega
      have HO := Lib.hid H.out.1
      have hbel := Lib.hid H.out.2.1
      clear H
      have hnb : some (w.heap.size + 1) ≠ (Value.slice (some ⟨g, 0, none⟩) k c).ownBlock := fun h => by
        have h1 := (HO.out.lt _ h.symm).1
        have h2 := HH.out.2.2
        omega
      have z0 : IntKind.u32.wrap (m0 : Int) = m0 := by rw [IntKind.wrap_u32]; omega
      have z1 : IntKind.u32.wrap (m1 : Int) = m1 := by rw [IntKind.wrap_u32]; omega
      have z2 : IntKind.u32.wrap (m2 : Int) = m2 := by rw [IntKind.wrap_u32]; omega
      have z3 : IntKind.u32.wrap (m3 : Int) = m3 := by rw [IntKind.wrap_u32]; omega
      go_region_held3 (fun w' => w'.cell? ⟨w.heap.size + 1, y0, none⟩ = some (.int .u8 m0) ∧ w'.cell? ⟨w.heap.size + 1, y1, none⟩ = some (.int .u8 m1) ∧ w'.cell? ⟨w.heap.size + 1, y2, none⟩ = some (.int .u8 m2) ∧ w'.cell? ⟨w.heap.size + 1, y3, none⟩ = some (.int .u8 m3))
        (first | go_keep | (rw [hgrow.cell_far ⟨w.heap.size + 1, y0, none⟩ (by simp; omega) hnb, hgrow.cell_far ⟨w.heap.size + 1, y1, none⟩ (by simp; omega) hnb, hgrow.cell_far ⟨w.heap.size + 1, y2, none⟩ (by simp; omega) hnb, hgrow.cell_far ⟨w.heap.size + 1, y3, none⟩ (by simp; omega) hnb]; assumption))
        ((refine step_append_lies _ (by rfl) _ _ _ (by rfl) w1.heap.size 46 i0 _ 1 4 Tryd.underlying74 hi hz0 hz1 hz2 rfl (by decide) (.slice (some ⟨g, 0, none⟩) k c) k (il (fun j => (xw f j : Nat)) k) (by rfl) ((HO.out.alloc _).drew) ⟨wr.heap.size, 0, none⟩ 1 1 [.int .u32 _] (by rfl) (by rfl) (World.news_of_block (t := 46) (fr := (0, 0)) (heap_alloc_new wr _)) (by intro u hu; simp at hu; subst hu; rfl) (by omega) (by unfold maxLen; omega) (by omega) (by simp; omega) (wr.heap.size + 1) (by simp) ?_; intro gg cap' w3 hown1 hgrow hat hlt))
      have hold2 : Below w1.heap.size w1 w3 := (hbel.out.alloc hbas _).drew.grown hgrow (by simp; omega) (fun j hj => by have := (HO.out.lt _ hj).1; exact this)
      rw [HV.out, il_next (fun j => ((xw f j : Nat) : Int)) k] at hown1
      have HN := Lib.hid (And.intro hown1 (And.intro hold2 (⟨gg, cap', rfl⟩ : ∃ g c, Value.slice (some ⟨gg, 0, none⟩) (k + 1) cap' = .slice (some ⟨g, 0, none⟩) (k + 1) c)))
      clear hown1 hgrow hat hlt hold2
      go_wp2
      go_roundw
      case rel => exact ⟨k + 1, by omega, by go_num, HN⟩
      case measure => simp [intOf]; omega
    · obtain rfl : k = 16 := by omega
      obtain ⟨g, c, rfl⟩ := H.out.2.2
      go_wp2_with fail
      obtain ⟨x, hx⟩ : ∃ x : Nat → Int, (fun j => ((xw f j : Nat) : Int)) = x := ⟨_, rfl⟩
      obtain ⟨w2, hw2⟩ : ∃ w2, ((wr.alloc (.cells #[.int .u32 0, .int .u32 1518500249, .int .u32 1859775393, .int .u32 2400959708, .int .u32 2840853838] 46)).alloc (.cells #[.int .u32 1352829926, .int .u32 1548603684, .int .u32 1836072691, .int .u32 2053994217, .int .u32 0] 46)) = w2 := ⟨_, rfl⟩
      have hb2 : Below wr.heap.size wr w2 := by rw [← hw2]; exact ((Below.refl _ _).alloc (Nat.le_refl _) _).alloc (by simp) _
      have hcd : CD w h x g wr.heap.size w2.drew := by
        obtain ⟨ho, hb, -⟩ := H.out
        have h1 := HH.out.2.2
        have h2 := hb.size
        have h3 := ho.lt g rfl
        have hT : ((ar .u32 5 (conT 0)) : Array Value) = #[.int .u32 0, .int .u32 1518500249, .int .u32 1859775393, .int .u32 2400959708, .int .u32 2840853838] := by kernel_rfl
        have hT2 : ((ar .u32 5 (conT 1)) : Array Value) = #[.int .u32 1352829926, .int .u32 1548603684, .int .u32 1836072691, .int .u32 2053994217, .int .u32 0] := by kernel_rfl
        have ha : w2.heap[wr.heap.size]? = some (.cells (ar .u32 5 (conT 0)) 46 (0, 0)) := by rw [hT, ← hw2]; exact heap_alloc2_old _ _ _
        have hb' : w2.heap[wr.heap.size + 1]? = some (.cells (ar .u32 5 (conT 1)) 46 (0, 0)) := by rw [hT2, ← hw2]; exact heap_alloc2_new _ _ _
        have hs2 : w2.heap.size = wr.heap.size + 2 := by rw [← hw2]; simp
        refine ⟨Below.drew (HH.out.2.1.trans ((hb.mono (by omega)).trans (hb2.mono (by omega)))), ?_, ?_, fun j hj => ?_, fun j hj => (cell_of_row _ _ j _ _ _ ha).trans (ar_at _ _ _ _ hj), fun j hj => (cell_of_row _ _ j _ _ _ hb').trans (ar_at _ _ _ _ hj), h3.2, by omega, by show _ ≤ w2.heap.size; omega⟩
        · exact (hb2.block _ (by omega)).trans ((hb.block _ (by omega)).trans HH.out.1.1)
        · exact (hb2.block _ (by omega)).trans ((hb.block _ (by omega)).trans HH.out.1.2.2)
        · refine (hb2.cell (p := ⟨g, j, none⟩) h3.2).trans ?_
          refine (ho.cellAt j hj).trans ?_
          rw [hx]
          exact il_at _ _ _ hj
      rw [hw2]
      have HXF := Lib.hid hx
      clear hx hw2 H
      refine region_tie2 (fun s wx => CD w h x g wr.heap.size wx ∧ AQ (wr.heap.size + 2) s wx) (fun i s wx => match i with | 0 => s 54 = (.agg (ar .u32 5 h)) | 1 => s 55 = (.agg (ar .u32 5 h)) | 2 => ∃ D, s 9 = .pointer (some ⟨D, 0, none⟩) ∧ ∃ cs : Array Value, wx.heap[D]? = some (.cells cs 47 (0, 0)) ∧ cs.size = 5 | 3 => ∃ D, s 10 = .pointer (some ⟨D, 0, none⟩) ∧ ∃ cs : Array Value, wx.heap[D]? = some (.cells cs 47 (0, 0)) ∧ cs.size = 5 | 4 => ∃ D, s 9 = .pointer (some ⟨D, 0, none⟩) ∧ wx.heap[D]? = some (.cells (ar .u32 5 h) 47 (0, 0)) | 5 => ∃ D, s 10 = .pointer (some ⟨D, 0, none⟩) ∧ wx.heap[D]? = some (.cells (ar .u32 5 h) 47 (0, 0)) | _ => True) (RN h h) (fun i => match i with | 0 => [54] | 1 => [55] | 2 => [9] | 3 => [10] | 4 => [9] | 5 => [10] | _ => []) (fun i => i) (by kernel_rfl) (by kernel_rfl) ⟨hcd, AQ.start (by kernel_rfl) (by kernel_rfl)⟩ ?_ ?_ ?_ ?_
      · intro i s s' wx he hp
        match i, he, hp with
        | 0, he, hp => exact (he 54 (by simp)).symm.trans hp
        | 1, he, hp => exact (he 55 (by simp)).symm.trans hp
        | 2, he, hp => obtain ⟨D, h1, h2⟩ := hp; exact ⟨D, (he 9 (by simp)).symm.trans h1, h2⟩
        | 3, he, hp => obtain ⟨D, h1, h2⟩ := hp; exact ⟨D, (he 10 (by simp)).symm.trans h1, h2⟩
        | 4, he, hp => obtain ⟨D, h1, h2⟩ := hp; exact ⟨D, (he 9 (by simp)).symm.trans h1, h2⟩
        | 5, he, hp => obtain ⟨D, h1, h2⟩ := hp; exact ⟨D, (he 10 (by simp)).symm.trans h1, h2⟩
        | _ + 6, _, _ => trivial
      · intro i s wa wb hC hR hp
        match i, hp with
        | 0, hp => exact hp
        | 1, hp => exact hp
        | 2, hp => obtain ⟨D, h1, h2⟩ := hp; exact ⟨D, h1, hR.shape h2⟩
        | 3, hp => obtain ⟨D, h1, h2⟩ := hp; exact ⟨D, h1, hR.shape h2⟩
        | 4, hp => obtain ⟨D, h1, h2⟩ := hp; exact ⟨D, h1, RN.keep6 hC.2 hR h1 h2⟩
        | 5, hp => obtain ⟨D, h1, h2⟩ := hp; exact ⟨D, h1, RN.keep7 hC.2 hR h1 h2⟩
        | _ + 6, _ => trivial
      · refine ⟨?_, ?_, ?_, ?_, ?_, ?_, trivial⟩
        · intro a wx hC hsz hK
          exact uu_load 47 (.tmp 2) (.pointer (some ⟨w.heap.size, 0, none⟩)) (.agg (ar .u32 5 h)) rfl (by kernel_rfl) (hK.1 2 (by kernel_rfl)) (load_5 hC.1.r0) ⟨hC.1, (hC.2.put (slots_other _ 54 9 _ (by omega)) (slots_other _ 54 10 _ (by omega)) (Nat.le_refl _))⟩ (slots_put _ _ _ (by rw [hsz]; exact of_decide_eq_true (by kernel_rfl))) (RN.same _)
        · intro a wx hC hsz hK
          exact uu_load 47 (.tmp 2) (.pointer (some ⟨w.heap.size, 0, none⟩)) (.agg (ar .u32 5 h)) rfl (by kernel_rfl) (hK.1 2 (by kernel_rfl)) (load_5 hC.1.r0) ⟨hC.1, (hC.2.put (slots_other _ 55 9 _ (by omega)) (slots_other _ 55 10 _ (by omega)) (Nat.le_refl _))⟩ (slots_put _ _ _ (by rw [hsz]; exact of_decide_eq_true (by kernel_rfl))) (RN.same _)
        · intro a wx hC hsz hK
          have hb : Below wx.heap.size wx (wx.alloc (.cells #[.int .u32 0, .int .u32 0, .int .u32 0, .int .u32 0, .int .u32 0] 47)) := (Below.refl _ _).alloc (Nat.le_refl _) _
          exact uu_new (.pointer (some ⟨wx.heap.size, 0, none⟩)) (by kernel_rfl) (by kernel_rfl) ⟨hC.1.below hb, hC.2.new6 (slots_put _ _ _ (by rw [hsz]; exact of_decide_eq_true (by kernel_rfl))) (slots_other _ 9 10 _ (by omega)) hC.1.high (by simp)⟩ ⟨_, (slots_put _ _ _ (by rw [hsz]; exact of_decide_eq_true (by kernel_rfl))), #[.int .u32 0, .int .u32 0, .int .u32 0, .int .u32 0, .int .u32 0], heap_alloc_new _ _, rfl⟩ (RN.of hb)
        · intro a wx hC hsz hK
          have hb : Below wx.heap.size wx (wx.alloc (.cells #[.int .u32 0, .int .u32 0, .int .u32 0, .int .u32 0, .int .u32 0] 47)) := (Below.refl _ _).alloc (Nat.le_refl _) _
          exact uu_new (.pointer (some ⟨wx.heap.size, 0, none⟩)) (by kernel_rfl) (by kernel_rfl) ⟨hC.1.below hb, hC.2.new7 (slots_put _ _ _ (by rw [hsz]; exact of_decide_eq_true (by kernel_rfl))) (slots_other _ 10 9 _ (by omega)) hC.1.high (by simp)⟩ ⟨_, (slots_put _ _ _ (by rw [hsz]; exact of_decide_eq_true (by kernel_rfl))), #[.int .u32 0, .int .u32 0, .int .u32 0, .int .u32 0, .int .u32 0], heap_alloc_new _ _, rfl⟩ (RN.of hb)
        · intro a wx hC hsz hK
          obtain ⟨D, h1, cs, h3, h4⟩ := hK.2 ⟨2, .data⟩ (by simp) rfl _ rfl
          have h0 : a.tmps.getD 54 undef = (.agg (ar .u32 5 h)) := hK.2 ⟨0, .data⟩ (by simp) rfl _ rfl
          exact uu_store (by kernel_rfl) rfl (run_store 47 (.tmp 9) (.tmp 54) _ _ rfl h1 h0 (store_5 h4 h3)) ⟨hC.1.rowed (hC.2.a6 D h1).1, hC.2.put rfl rfl (by simp)⟩ ⟨D, h1, setRow_heap _ _ _ _ _ _ h3⟩ (.inr ⟨D, ar .u32 5 h, .inl ⟨h1, rfl⟩, rfl⟩)
        · intro a wx hC hsz hK
          obtain ⟨D, h1, cs, h3, h4⟩ := hK.2 ⟨3, .data⟩ (by simp) rfl _ rfl
          have h0 : a.tmps.getD 55 undef = (.agg (ar .u32 5 h)) := hK.2 ⟨1, .data⟩ (by simp) rfl _ rfl
          exact uu_store (by kernel_rfl) rfl (run_store 47 (.tmp 10) (.tmp 55) _ _ rfl h1 h0 (store_5 h4 h3)) ⟨hC.1.rowed (hC.2.a7 D h1).1, hC.2.put rfl rfl (by simp)⟩ ⟨D, h1, setRow_heap _ _ _ _ _ _ h3⟩ (.inr ⟨D, ar .u32 5 h, .inr ⟨h1, rfl⟩, rfl⟩)
      · intro f5 wx hC hf5
        have s54 := hf5 0 _ rfl
        have s55 := hf5 1 _ rfl
        obtain ⟨D, s9, rp⟩ := hf5 4 _ rfl
        obtain ⟨E, s10, rq⟩ := hf5 5 _ rfl
        have hDE := hC.2.ne D E s9 s10
        have hDl := hC.2.a6 D s9
        have hEl := hC.2.a7 E s10
        have HC : Hid (CD w h x g wr.heap.size wx ∧ wx.heap[D]? = some (.cells (ar .u32 5 h) 47 (0, 0)) ∧ wx.heap[E]? = some (.cells (ar .u32 5 h) 47 (0, 0)) ∧ D ≠ E ∧ wr.heap.size + 2 ≤ D ∧ wr.heap.size + 2 ≤ E ∧ D < wx.heap.size ∧ E < wx.heap.size) := Lib.hid ⟨hC.1, rp, rq, hDE, hDl.1, hEl.1, hDl.2, hEl.2⟩
        clear hf5 hC rp rq hDE hDl hEl
        generalize hA : putAll _ _ _ = A at *
        have hsz : A.tmps.size = 190 := by rw [← hA, putAll_size]; rfl
        have t0 : A.tmps.getD 0 undef = (.agg (ar .u32 5 h)) := by subst hA; kernel_rfl
        have t1 : A.tmps.getD 1 undef = (.agg (ar .u8 64 fun j => (f j : Nat))) := by subst hA; kernel_rfl
        have t2 : A.tmps.getD 2 undef = (.pointer (some ⟨w.heap.size, 0, none⟩)) := by subst hA; kernel_rfl
        have t3 : A.tmps.getD 3 undef = (.pointer (some ⟨w.heap.size + 1, 0, none⟩)) := by subst hA; kernel_rfl
        have t4 : A.tmps.getD 4 undef = (.pointer (some ⟨w.heap.size + 1 + 1, 0, none⟩)) := by subst hA; kernel_rfl
        have t5 : A.tmps.getD 5 undef = (.slice (some ⟨g, 0, none⟩) 16 c) := by subst hA; kernel_rfl
        have t6 : A.tmps.getD 6 undef = (.int .i64 16) := by subst hA; kernel_rfl
        have t7 : A.tmps.getD 7 undef = (.slice (some ⟨wr.heap.size, 0, none⟩) 5 5) := by subst hA; kernel_rfl
        have t8 : A.tmps.getD 8 undef = (.slice (some ⟨wr.heap.size + 1, 0, none⟩) 5 5) := by subst hA; kernel_rfl
        have t11 : A.tmps.getD 11 undef = undef := by subst hA; kernel_rfl
        have t12 : A.tmps.getD 12 undef = undef := by subst hA; kernel_rfl
        have t13 : A.tmps.getD 13 undef = undef := by subst hA; kernel_rfl
        have t14 : A.tmps.getD 14 undef = undef := by subst hA; kernel_rfl
        have t15 : A.tmps.getD 15 undef = (.slice (some ⟨w1.heap.size, 0, none⟩) 0 0) := by subst hA; kernel_rfl
        have t16 : A.tmps.getD 16 undef = (.int .i64 16) := by subst hA; kernel_rfl
        have t17 : A.tmps.getD 17 undef = (.bool false) := by subst hA; kernel_rfl
        have t18 : A.tmps.getD 18 undef = u18 := by subst hA; kernel_rfl
        have t19 : A.tmps.getD 19 undef = u19 := by subst hA; kernel_rfl
        have t20 : A.tmps.getD 20 undef = u20 := by subst hA; kernel_rfl
        have t21 : A.tmps.getD 21 undef = u21 := by subst hA; kernel_rfl
        have t22 : A.tmps.getD 22 undef = u22 := by subst hA; kernel_rfl
        have t23 : A.tmps.getD 23 undef = u23 := by subst hA; kernel_rfl
        have t24 : A.tmps.getD 24 undef = u24 := by subst hA; kernel_rfl
        have t25 : A.tmps.getD 25 undef = u25 := by subst hA; kernel_rfl
        have t26 : A.tmps.getD 26 undef = u26 := by subst hA; kernel_rfl
        have t27 : A.tmps.getD 27 undef = u27 := by subst hA; kernel_rfl
        have t28 : A.tmps.getD 28 undef = u28 := by subst hA; kernel_rfl
        have t29 : A.tmps.getD 29 undef = u29 := by subst hA; kernel_rfl
        have t30 : A.tmps.getD 30 undef = u30 := by subst hA; kernel_rfl
        have t31 : A.tmps.getD 31 undef = u31 := by subst hA; kernel_rfl
        have t32 : A.tmps.getD 32 undef = u32 := by subst hA; kernel_rfl
        have t33 : A.tmps.getD 33 undef = u33 := by subst hA; kernel_rfl
        have t34 : A.tmps.getD 34 undef = u34 := by subst hA; kernel_rfl
        have t35 : A.tmps.getD 35 undef = u35 := by subst hA; kernel_rfl
        have t36 : A.tmps.getD 36 undef = u36 := by subst hA; kernel_rfl
        have t37 : A.tmps.getD 37 undef = u37 := by subst hA; kernel_rfl
        have t38 : A.tmps.getD 38 undef = u38 := by subst hA; kernel_rfl
        have t39 : A.tmps.getD 39 undef = u39 := by subst hA; kernel_rfl
        have t40 : A.tmps.getD 40 undef = u40 := by subst hA; kernel_rfl
        have t41 : A.tmps.getD 41 undef = u41 := by subst hA; kernel_rfl
        have t42 : A.tmps.getD 42 undef = u42 := by subst hA; kernel_rfl
        have t43 : A.tmps.getD 43 undef = u43 := by subst hA; kernel_rfl
        have t44 : A.tmps.getD 44 undef = u44 := by subst hA; kernel_rfl
        have t45 : A.tmps.getD 45 undef = u45 := by subst hA; kernel_rfl
        have t46 : A.tmps.getD 46 undef = u46 := by subst hA; kernel_rfl
        have t47 : A.tmps.getD 47 undef = u47 := by subst hA; kernel_rfl
        have t48 : A.tmps.getD 48 undef = u48 := by subst hA; kernel_rfl
        have t49 : A.tmps.getD 49 undef = u49 := by subst hA; kernel_rfl
        have t50 : A.tmps.getD 50 undef = u50 := by subst hA; kernel_rfl
        have t51 : A.tmps.getD 51 undef = u51 := by subst hA; kernel_rfl
        have t52 : A.tmps.getD 52 undef = (.slice (some ⟨wr.heap.size, 0, none⟩) 5 5) := by subst hA; kernel_rfl
        have t53 : A.tmps.getD 53 undef = (.slice (some ⟨wr.heap.size + 1, 0, none⟩) 5 5) := by subst hA; kernel_rfl
        have t56 : A.tmps.getD 56 undef = undef := by subst hA; kernel_rfl
        have t57 : A.tmps.getD 57 undef = undef := by subst hA; kernel_rfl
        have t58 : A.tmps.getD 58 undef = undef := by subst hA; kernel_rfl
        have t59 : A.tmps.getD 59 undef = undef := by subst hA; kernel_rfl
        have t60 : A.tmps.getD 60 undef = undef := by subst hA; kernel_rfl
        have t61 : A.tmps.getD 61 undef = undef := by subst hA; kernel_rfl
        have t62 : A.tmps.getD 62 undef = undef := by subst hA; kernel_rfl
        have t63 : A.tmps.getD 63 undef = undef := by subst hA; kernel_rfl
        have t64 : A.tmps.getD 64 undef = undef := by subst hA; kernel_rfl
        have t65 : A.tmps.getD 65 undef = undef := by subst hA; kernel_rfl
        have t66 : A.tmps.getD 66 undef = undef := by subst hA; kernel_rfl
        have t67 : A.tmps.getD 67 undef = undef := by subst hA; kernel_rfl
        have t68 : A.tmps.getD 68 undef = undef := by subst hA; kernel_rfl
        have t69 : A.tmps.getD 69 undef = undef := by subst hA; kernel_rfl
        have t70 : A.tmps.getD 70 undef = undef := by subst hA; kernel_rfl
        have t71 : A.tmps.getD 71 undef = undef := by subst hA; kernel_rfl
        have t72 : A.tmps.getD 72 undef = undef := by subst hA; kernel_rfl
        have t73 : A.tmps.getD 73 undef = undef := by subst hA; kernel_rfl
        have t74 : A.tmps.getD 74 undef = undef := by subst hA; kernel_rfl
        have t75 : A.tmps.getD 75 undef = undef := by subst hA; kernel_rfl
        have t76 : A.tmps.getD 76 undef = undef := by subst hA; kernel_rfl
        have t77 : A.tmps.getD 77 undef = undef := by subst hA; kernel_rfl
        have t78 : A.tmps.getD 78 undef = undef := by subst hA; kernel_rfl
        have t79 : A.tmps.getD 79 undef = undef := by subst hA; kernel_rfl
        have t80 : A.tmps.getD 80 undef = undef := by subst hA; kernel_rfl
        have t81 : A.tmps.getD 81 undef = undef := by subst hA; kernel_rfl
        have t82 : A.tmps.getD 82 undef = undef := by subst hA; kernel_rfl
        have t83 : A.tmps.getD 83 undef = undef := by subst hA; kernel_rfl
        have t84 : A.tmps.getD 84 undef = undef := by subst hA; kernel_rfl
        have t85 : A.tmps.getD 85 undef = undef := by subst hA; kernel_rfl
        have t86 : A.tmps.getD 86 undef = undef := by subst hA; kernel_rfl
        have t87 : A.tmps.getD 87 undef = undef := by subst hA; kernel_rfl
        have t88 : A.tmps.getD 88 undef = undef := by subst hA; kernel_rfl
        have t89 : A.tmps.getD 89 undef = undef := by subst hA; kernel_rfl
        have t90 : A.tmps.getD 90 undef = undef := by subst hA; kernel_rfl
        have t91 : A.tmps.getD 91 undef = undef := by subst hA; kernel_rfl
        have t92 : A.tmps.getD 92 undef = undef := by subst hA; kernel_rfl
        have t93 : A.tmps.getD 93 undef = undef := by subst hA; kernel_rfl
        have t94 : A.tmps.getD 94 undef = undef := by subst hA; kernel_rfl
        have t95 : A.tmps.getD 95 undef = undef := by subst hA; kernel_rfl
        have t96 : A.tmps.getD 96 undef = undef := by subst hA; kernel_rfl
        have t97 : A.tmps.getD 97 undef = undef := by subst hA; kernel_rfl
        have t98 : A.tmps.getD 98 undef = undef := by subst hA; kernel_rfl
        have t99 : A.tmps.getD 99 undef = undef := by subst hA; kernel_rfl
        have t100 : A.tmps.getD 100 undef = undef := by subst hA; kernel_rfl
        have t101 : A.tmps.getD 101 undef = undef := by subst hA; kernel_rfl
        have t102 : A.tmps.getD 102 undef = undef := by subst hA; kernel_rfl
        have t103 : A.tmps.getD 103 undef = undef := by subst hA; kernel_rfl
        have t104 : A.tmps.getD 104 undef = undef := by subst hA; kernel_rfl
        have t105 : A.tmps.getD 105 undef = undef := by subst hA; kernel_rfl
        have t106 : A.tmps.getD 106 undef = undef := by subst hA; kernel_rfl
        have t107 : A.tmps.getD 107 undef = undef := by subst hA; kernel_rfl
        have t108 : A.tmps.getD 108 undef = undef := by subst hA; kernel_rfl
        have t109 : A.tmps.getD 109 undef = undef := by subst hA; kernel_rfl
        have t110 : A.tmps.getD 110 undef = undef := by subst hA; kernel_rfl
        have t111 : A.tmps.getD 111 undef = undef := by subst hA; kernel_rfl
        have t112 : A.tmps.getD 112 undef = undef := by subst hA; kernel_rfl
        have t113 : A.tmps.getD 113 undef = undef := by subst hA; kernel_rfl
        have t114 : A.tmps.getD 114 undef = undef := by subst hA; kernel_rfl
        have t115 : A.tmps.getD 115 undef = undef := by subst hA; kernel_rfl
        have t116 : A.tmps.getD 116 undef = undef := by subst hA; kernel_rfl
        have t117 : A.tmps.getD 117 undef = undef := by subst hA; kernel_rfl
        have t118 : A.tmps.getD 118 undef = undef := by subst hA; kernel_rfl
        have t119 : A.tmps.getD 119 undef = undef := by subst hA; kernel_rfl
        have t120 : A.tmps.getD 120 undef = undef := by subst hA; kernel_rfl
        have t121 : A.tmps.getD 121 undef = undef := by subst hA; kernel_rfl
        have t122 : A.tmps.getD 122 undef = undef := by subst hA; kernel_rfl
        have t123 : A.tmps.getD 123 undef = undef := by subst hA; kernel_rfl
        have t124 : A.tmps.getD 124 undef = undef := by subst hA; kernel_rfl
        have t125 : A.tmps.getD 125 undef = undef := by subst hA; kernel_rfl
        have t126 : A.tmps.getD 126 undef = undef := by subst hA; kernel_rfl
        have t127 : A.tmps.getD 127 undef = undef := by subst hA; kernel_rfl
        have t128 : A.tmps.getD 128 undef = undef := by subst hA; kernel_rfl
        have t129 : A.tmps.getD 129 undef = undef := by subst hA; kernel_rfl
        have t130 : A.tmps.getD 130 undef = undef := by subst hA; kernel_rfl
        have t131 : A.tmps.getD 131 undef = undef := by subst hA; kernel_rfl
        have t132 : A.tmps.getD 132 undef = undef := by subst hA; kernel_rfl
        have t133 : A.tmps.getD 133 undef = undef := by subst hA; kernel_rfl
        have t134 : A.tmps.getD 134 undef = undef := by subst hA; kernel_rfl
        have t135 : A.tmps.getD 135 undef = undef := by subst hA; kernel_rfl
        have t136 : A.tmps.getD 136 undef = undef := by subst hA; kernel_rfl
        have t137 : A.tmps.getD 137 undef = undef := by subst hA; kernel_rfl
        have t138 : A.tmps.getD 138 undef = undef := by subst hA; kernel_rfl
        have t139 : A.tmps.getD 139 undef = undef := by subst hA; kernel_rfl
        have t140 : A.tmps.getD 140 undef = undef := by subst hA; kernel_rfl
        have t141 : A.tmps.getD 141 undef = undef := by subst hA; kernel_rfl
        have t142 : A.tmps.getD 142 undef = undef := by subst hA; kernel_rfl
        have t143 : A.tmps.getD 143 undef = undef := by subst hA; kernel_rfl
        have t144 : A.tmps.getD 144 undef = undef := by subst hA; kernel_rfl
        have t145 : A.tmps.getD 145 undef = undef := by subst hA; kernel_rfl
        have t146 : A.tmps.getD 146 undef = undef := by subst hA; kernel_rfl
        have t147 : A.tmps.getD 147 undef = undef := by subst hA; kernel_rfl
        have t148 : A.tmps.getD 148 undef = undef := by subst hA; kernel_rfl
        have t149 : A.tmps.getD 149 undef = undef := by subst hA; kernel_rfl
        have t150 : A.tmps.getD 150 undef = undef := by subst hA; kernel_rfl
        have t151 : A.tmps.getD 151 undef = undef := by subst hA; kernel_rfl
        have t152 : A.tmps.getD 152 undef = undef := by subst hA; kernel_rfl
        have t153 : A.tmps.getD 153 undef = undef := by subst hA; kernel_rfl
        have t154 : A.tmps.getD 154 undef = undef := by subst hA; kernel_rfl
        have t155 : A.tmps.getD 155 undef = undef := by subst hA; kernel_rfl
        have t156 : A.tmps.getD 156 undef = undef := by subst hA; kernel_rfl
        have t157 : A.tmps.getD 157 undef = undef := by subst hA; kernel_rfl
        have t158 : A.tmps.getD 158 undef = undef := by subst hA; kernel_rfl
        have t159 : A.tmps.getD 159 undef = undef := by subst hA; kernel_rfl
        have t160 : A.tmps.getD 160 undef = undef := by subst hA; kernel_rfl
        have t161 : A.tmps.getD 161 undef = undef := by subst hA; kernel_rfl
        have t162 : A.tmps.getD 162 undef = undef := by subst hA; kernel_rfl
        have t163 : A.tmps.getD 163 undef = undef := by subst hA; kernel_rfl
        have t164 : A.tmps.getD 164 undef = undef := by subst hA; kernel_rfl
        have t165 : A.tmps.getD 165 undef = undef := by subst hA; kernel_rfl
        have t166 : A.tmps.getD 166 undef = undef := by subst hA; kernel_rfl
        have t167 : A.tmps.getD 167 undef = undef := by subst hA; kernel_rfl
        have t168 : A.tmps.getD 168 undef = undef := by subst hA; kernel_rfl
        have t169 : A.tmps.getD 169 undef = undef := by subst hA; kernel_rfl
        have t170 : A.tmps.getD 170 undef = undef := by subst hA; kernel_rfl
        have t171 : A.tmps.getD 171 undef = undef := by subst hA; kernel_rfl
        have t172 : A.tmps.getD 172 undef = undef := by subst hA; kernel_rfl
        have t173 : A.tmps.getD 173 undef = undef := by subst hA; kernel_rfl
        have t174 : A.tmps.getD 174 undef = undef := by subst hA; kernel_rfl
        have t175 : A.tmps.getD 175 undef = undef := by subst hA; kernel_rfl
        have t176 : A.tmps.getD 176 undef = undef := by subst hA; kernel_rfl
        have t177 : A.tmps.getD 177 undef = undef := by subst hA; kernel_rfl
        have t178 : A.tmps.getD 178 undef = undef := by subst hA; kernel_rfl
        have t179 : A.tmps.getD 179 undef = undef := by subst hA; kernel_rfl
        have t180 : A.tmps.getD 180 undef = undef := by subst hA; kernel_rfl
        have t181 : A.tmps.getD 181 undef = undef := by subst hA; kernel_rfl
        have t182 : A.tmps.getD 182 undef = undef := by subst hA; kernel_rfl
        have t183 : A.tmps.getD 183 undef = undef := by subst hA; kernel_rfl
        have t184 : A.tmps.getD 184 undef = undef := by subst hA; kernel_rfl
        have t185 : A.tmps.getD 185 undef = undef := by subst hA; kernel_rfl
        have t186 : A.tmps.getD 186 undef = undef := by subst hA; kernel_rfl
        have t187 : A.tmps.getD 187 undef = undef := by subst hA; kernel_rfl
        have t188 : A.tmps.getD 188 undef = undef := by subst hA; kernel_rfl
        have t189 : A.tmps.getD 189 undef = undef := by subst hA; kernel_rfl
        have hd : A.defers = [] := by subst hA; kernel_rfl
        clear hA
        obtain ⟨tm, df⟩ := A
        simp only [slots] at *
        have hL := arr_lit tm
        rw [hsz] at hL
        simp only [List.range, List.range.loop, List.map] at hL
        rw [t0, t1, t2, t3, t4, t5, t6, t7, t8, s9, s10, t11, t12, t13, t14, t15, t16, t17, t18, t19, t20, t21, t22, t23, t24, t25, t26, t27, t28, t29, t30, t31, t32, t33, t34, t35, t36, t37, t38, t39, t40, t41, t42, t43, t44, t45, t46, t47, t48, t49, t50, t51, t52, t53, s54, s55, t56, t57, t58, t59, t60, t61, t62, t63, t64, t65, t66, t67, t68, t69, t70, t71, t72, t73, t74, t75, t76, t77, t78, t79, t80, t81, t82, t83, t84, t85, t86, t87, t88, t89, t90, t91, t92, t93, t94, t95, t96, t97, t98, t99, t100, t101, t102, t103, t104, t105, t106, t107, t108, t109, t110, t111, t112, t113, t114, t115, t116, t117, t118, t119, t120, t121, t122, t123, t124, t125, t126, t127, t128, t129, t130, t131, t132, t133, t134, t135, t136, t137, t138, t139, t140, t141, t142, t143, t144, t145, t146, t147, t148, t149, t150, t151, t152, t153, t154, t155, t156, t157, t158, t159, t160, t161, t162, t163, t164, t165, t166, t167, t168, t169, t170, t171, t172, t173, t174, t175, t176, t177, t178, t179, t180, t181, t182, t183, t184, t185, t186, t187, t188, t189] at hL
        subst hL hd
        clear t0 t1 t2 t3 t4 t5 t6 t7 t8 s9 s10 t11 t12 t13 t14 t15 t16 t17 t18 t19 t20 t21 t22 t23 t24 t25 t26 t27 t28 t29 t30 t31 t32 t33 t34 t35 t36 t37 t38 t39 t40 t41 t42 t43 t44 t45 t46 t47 t48 t49 t50 t51 t52 t53 s54 s55 t56 t57 t58 t59 t60 t61 t62 t63 t64 t65 t66 t67 t68 t69 t70 t71 t72 t73 t74 t75 t76 t77 t78 t79 t80 t81 t82 t83 t84 t85 t86 t87 t88 t89 t90 t91 t92 t93 t94 t95 t96 t97 t98 t99 t100 t101 t102 t103 t104 t105 t106 t107 t108 t109 t110 t111 t112 t113 t114 t115 t116 t117 t118 t119 t120 t121 t122 t123 t124 t125 t126 t127 t128 t129 t130 t131 t132 t133 t134 t135 t136 t137 t138 t139 t140 t141 t142 t143 t144 t145 t146 t147 t148 t149 t150 t151 t152 t153 t154 t155 t156 t157 t158 t159 t160 t161 t162 t163 t164 t165 t166 t167 t168 t169 t170 t171 t172 t173 t174 t175 t176 t177 t178 t179 t180 t181 t182 t183 t184 t185 t186 t187 t188 t189 hsz
        go_wp2_with fail
        obtain ⟨B, hB⟩ : ∃ B, wr.heap.size = B := ⟨_, rfl⟩
        rw [hB] at HC ⊢
        clear hB hb2 hcd
        have HC0 : Hid (D ≠ E ∧ B + 2 ≤ D ∧ B + 2 ≤ E) := Lib.hid ⟨HC.out.2.2.2.1, HC.out.2.2.2.2.1, HC.out.2.2.2.2.2.1⟩
        go_loopw [11] (fun i wy => ∃ j : Nat, j ≤ 80 ∧ i = .int .i64 j ∧ Hid (CD w h x g B wy ∧ wy.heap[D]? = some (.cells (ar .u32 5 (st5 (rst h x 0 j))) 47 (0, 0)) ∧ wy.heap[E]? = some (.cells (ar .u32 5 (st5 (rst h x 1 j))) 47 (0, 0)))) (fun i _ => 80 - (intOf i).toNat)
        case atStart =>
          have hz : ∀ l, ar .u32 5 (st5 (rst h x l 0)) = ar .u32 5 h := fun l => by kernel_rfl
          refine ⟨0, by omega, rfl, Lib.hid ?_⟩
          rw [hz 0, hz 1]
          exact ⟨HC.out.1, HC.out.2.1, HC.out.2.2.1⟩
        case round =>
          obtain ⟨j, hj, rfl, H⟩ := hrel
          have hj0 : (0 : Int) ≤ j := by omega
          have hj1 : (j : Int) ≤ 80 := by omega
          by_cases hlt : j < 80
          · have hlt' : (j : Int) < 80 := by omega
            obtain ⟨q, hq⟩ : ∃ q : Nat, (j : Int) / 16 = (q : Int) := ⟨j / 16, by omega⟩
            obtain ⟨k, hk⟩ : ∃ k : Nat, (j : Int) % 16 = (k : Int) := ⟨j % 16, by omega⟩
            have hq5 : q < 5 := by omega
            have hk16 : k < 16 := by omega
            have hjq : j = 16 * q + k := by omega
            have q0 : (0 : Int) ≤ q := by omega
            have q1 : (q : Int) < 5 := by omega
            have q2 : (q : Int) ≤ 4 := by omega
            have hlp0 := plc_lt 0 (by omega) q k hk16
            have hlp1 := plc_lt 1 (by omega) q k hk16
            have HP0 := Lib.hid (fun w => place_0 q k hq5 hk16 w)
            have HP1 := Lib.hid (fun w => place_1 q k hq5 hk16 w)
            have HN0 := Lib.hid (rst_step h x 0 q k hk16)
            have HN1 := Lib.hid (rst_step h x 1 q k hk16)
            rw [show 16 * q + (k + 1) = j + 1 by omega, show 16 * q + k = j by omega] at HN0 HN1
            clear hjq
            obtain ⟨V, hV⟩ : ∃ V, rst h x 0 j = V := ⟨_, rfl⟩
            obtain ⟨U, hU⟩ : ∃ U, rst h x 1 j = U := ⟨_, rfl⟩
            rw [hV] at HN0 H
            rw [hU] at HN1 H
            clear hV hU
            obtain ⟨p, hp⟩ : ∃ p, plc 0 q k = p := ⟨_, rfl⟩
            obtain ⟨p2, hp2⟩ : ∃ p, plc 1 q k = p := ⟨_, rfl⟩
            rw [hp] at HP0 HN0 hlp0
            rw [hp2] at HP1 HN1 hlp1
            clear hp hp2
            have p0 : (0 : Int) ≤ p := by omega
            have p1 : (p : Int) < 16 := by omega
            have p20 : (0 : Int) ≤ p2 := by omega
            have p21 : (p2 : Int) < 16 := by omega
            have HB0 := Lib.hid (fun w => turns_any q p hq5 hlp0 w)
            have HB1 := Lib.hid (fun w => turns_any q p2 hq5 hlp1 w)
            have HU0 := Lib.hid (fun y w => rup_any y (turT q p) (by have := turT_bd q p hq5 hlp0; omega) (turT_bd q p hq5 hlp0).1 w)
            have HU1 := Lib.hid (fun y w => rup_any y (turT q p2) (by have := turT_bd q p2 hq5 hlp1; omega) (turT_bd q p2 hq5 hlp1).1 w)
            have HF0 := Lib.hid (fun w => rf_any q (by omega) V.b V.c V.d w)
            have HF1 := Lib.hid (fun w => rf_any (4 - q) (by omega) U.b U.c U.d w)
            have hm0 : mixT 0 q = q := rfl
            have hm1 : mixT 1 q = 4 - q := rfl
            have HM := Lib.hid (And.intro hm0 hm1)
            clear hm0 hm1
            go_wp2_with fail
            refine (HP0.out _).mono ?_
            rintro e w4 ⟨rfl, hb4⟩
            have c4 := H.out.1.below hb4
            have d4 : w4.heap[D]? = _ := (hb4.block _ (Array.getElem?_eq_some_iff.1 H.out.2.1).1).trans H.out.2.1
            have e4 : w4.heap[E]? = _ := (hb4.block _ (Array.getElem?_eq_some_iff.1 H.out.2.2).1).trans H.out.2.2
            clear H hb4
            have v0 := five_cells d4 0 (by omega)
            have v1 := five_cells d4 1 (by omega)
            have v2 := five_cells d4 2 (by omega)
            have v3 := five_cells d4 3 (by omega)
            have v4 := five_cells d4 4 (by omega)
            have vx := c4.xs p hlp0
            have vo := c4.o1 q hq5
            have H4 := Lib.hid (And.intro c4 (And.intro d4 e4))
            clear c4 d4 e4
            simp only [st5, List.getD_cons_zero, List.getD_cons_succ] at v0 v1 v2 v3 v4
            go_wp2_with fail
            go_region_held3 (fun w' => w'.cell? ⟨D, 0, none⟩ = some (.int .u32 V.a) ∧ w'.cell? ⟨D, 1, none⟩ = some (.int .u32 V.b) ∧ w'.cell? ⟨D, 2, none⟩ = some (.int .u32 V.c) ∧ w'.cell? ⟨D, 3, none⟩ = some (.int .u32 V.d) ∧ w'.cell? ⟨D, 4, none⟩ = some (.int .u32 V.e) ∧ w'.cell? ⟨g, p, none⟩ = some (.int .u32 (x p)) ∧ w'.cell? ⟨B, q, none⟩ = some (.int .u32 (conT 0 q)))
              (first | go_keep | (exact (And.imp (fun h => keep_cell h hbb) (And.imp (fun h => keep_cell h hbb) (And.imp (fun h => keep_cell h hbb) (And.imp (fun h => keep_cell h hbb) (And.imp (fun h => keep_cell h hbb) (And.imp (fun h => keep_cell h hbb) (fun h => keep_cell h hbb))))))) (by assumption)) | (refine ⟨?_, ?_, ?_, ?_, ?_, ?_, ?_⟩ <;> assumption))
              ((first | (go_simp; go_at_call 62; refine (HF0.out _).mono ?_; rintro e w' ⟨rfl, rfl⟩) | (go_simp; go_at_call 63; refine (HB0.out _).mono ?_; rintro e wb ⟨rfl, hbb⟩) | (go_simp; go_at_call 61; refine (HU0.out _ _).mono ?_; rintro e w' ⟨rfl, rfl⟩)))
            obtain ⟨w5, hw5⟩ : ∃ w5, w' = w5 := ⟨_, rfl⟩
            have hb5 : Below w4.heap.size w4 w5 := by rw [← hw5]; exact ((Below.refl _ _).drew).trans hbb
            rw [hw5]
            clear hw5 hbb
            obtain ⟨T, hT⟩ : ∃ T, IntKind.u32.wrap (rup (turT q p) (IntKind.u32.wrap (IntKind.u32.wrap (IntKind.u32.wrap (V.a + rmx q V.b V.c V.d) + x p) + conT 0 q)) + V.e) = T := ⟨_, rfl⟩
            rw [hT]
            have HQ0 : Hid (rst h x 0 (j + 1) = (⟨V.e, T, V.b, rup 10 V.c, V.d⟩ : St)) := Lib.hid (by
              rw [HN0.out, ← hT]
              simp only [IntKind.wrap_u32, Int.emod_add_emod]
              rfl)
            clear hT
            have H5 := Lib.hid (show CE w h x g B D E V U w5 from ⟨H4.out.1.below hb5, (hb5.block _ (Array.getElem?_eq_some_iff.1 H4.out.2.1).1).trans H4.out.2.1, (hb5.block _ (Array.getElem?_eq_some_iff.1 H4.out.2.2).1).trans H4.out.2.2⟩)
            clear H4 hb5 v0 v1 v2 v3 v4 vx vo
            have HU := Lib.hid (show ∀ wx, CE w h x g B D E V U wx → Calls Tryd.prog 61 #[.int .u32 V.c, .int .i64 10] wx (fun e w' => e = .returned (.int .u32 (rup 10 V.c)) ∧ CE w h x g B D E V U w') from fun wx hC => (rup_any V.c 10 (by omega) (by omega) wx).mono (R' := fun e w' => e = .returned (.int .u32 (rup 10 V.c)) ∧ CE w h x g B D E V U w') (by rintro e w' ⟨rfl, rfl⟩; exact ⟨rfl, hC⟩))
            go_wp2_with fail
            refine region_quiet_tail 11 (CE w h x g B D E V U) (by kernel_rfl) (by kernel_rfl) H5.out.drew ?_
            simp only [List.take_succ_cons, List.take_zero, List.drop_succ_cons, List.drop_zero]
            with_reducible refine q_val (.pointer (some ⟨D, 4, none⟩)) (by kernel_rfl) (fun _ _ => by kernel_rfl) ?_
            with_reducible refine q_load 46 (.tmp 94) (.pointer (some ⟨D, 4, none⟩)) (.int .u32 V.e) rfl (by kernel_rfl) (by kernel_rfl) (fun _ hC => hC.c1 4 (by omega) _ rfl) ?_
            with_reducible refine q_val (.int .u32 T) (by kernel_rfl) (fun _ _ => by kernel_rfl) ?_
            with_reducible refine q_val (.pointer (some ⟨D, 1, none⟩)) (by kernel_rfl) (fun _ _ => by kernel_rfl) ?_
            with_reducible refine q_load 46 (.tmp 97) (.pointer (some ⟨D, 1, none⟩)) (.int .u32 V.b) rfl (by kernel_rfl) (by kernel_rfl) (fun _ hC => hC.c1 1 (by omega) _ rfl) ?_
            with_reducible refine q_val (.pointer (some ⟨D, 2, none⟩)) (by kernel_rfl) (fun _ _ => by kernel_rfl) ?_
            with_reducible refine q_load 46 (.tmp 99) (.pointer (some ⟨D, 2, none⟩)) (.int .u32 V.c) rfl (by kernel_rfl) (by kernel_rfl) (fun _ hC => hC.c1 2 (by omega) _ rfl) ?_
            with_reducible refine q_call 61 #[.int .u32 V.c, .int .i64 10] (.int .u32 (rup 10 V.c)) (by kernel_rfl) (fun _ => by kernel_rfl) HU.out ?_
            with_reducible refine q_val (.pointer (some ⟨D, 3, none⟩)) (by kernel_rfl) (fun _ _ => by kernel_rfl) ?_
            with_reducible refine q_load 46 (.tmp 102) (.pointer (some ⟨D, 3, none⟩)) (.int .u32 V.d) rfl (by kernel_rfl) (by kernel_rfl) (fun _ hC => hC.c1 3 (by omega) _ rfl) ?_
            with_reducible refine q_val (.agg (ar .u32 5 (st5 (⟨V.e, T, V.b, rup 10 V.c, V.d⟩ : St)))) (by kernel_rfl) (fun _ _ => by kernel_rfl) ?_
            with_reducible refine wpQuiet_nil ?_
            intro wx hC
            have HC := Lib.hid hC
            clear hC
            simp only [Act.put, List.setIfInBounds_toArray, List.set_cons_succ, List.set_cons_zero]
            go_wp2_with (refine wpList_store_row rfl 47 _ _ rfl D (ar .u32 5 (st5 (⟨V.e, T, V.b, rup 10 V.c, V.d⟩ : St))) rfl rfl 47 _ HC.out.2.1 (by rw [ar_size]; exact info5) (by rw [ar_size, ar_size]) (ar_one _ _ _) ?_)
            obtain ⟨V2, hV2⟩ : ∃ V2 : St, (⟨V.e, T, V.b, rup 10 V.c, V.d⟩ : St) = V2 := ⟨_, rfl⟩
            rw [hV2] at HQ0 ⊢
            clear hV2
            have hde := HC0.out
            obtain ⟨w6, hw6⟩ : ∃ w6, wx.setRow D (ar .u32 5 (st5 V2)) = w6 := ⟨_, rfl⟩
            have H6 := Lib.hid (show CE w h x g B D E V2 U w6 from by rw [← hw6]; exact HC.out.set1 hde.2.1 hde.1)
            rw [hw6]
            clear hw6 HC HU hde H5
            go_wp2_with fail
            refine (HP1.out _).mono ?_
            rintro e w7 ⟨rfl, hb7⟩
            replace H6 := Lib.hid (H6.out.below hb7)
            clear hb7
            obtain ⟨z, hz⟩ : ∃ z, 4 - q = z := ⟨_, rfl⟩
            have hz4 : z ≤ 4 := by omega
            have HSU := Lib.hid (show ∀ w, (binOp BinOp.sub 3 (.int .i64 4) (.int .i64 q)).run Tryd.prog w = .ok (.int .i64 (z : Nat)) w from fun w => by
              have e : (4 : Int) - (q : Int) = (z : Int) := by omega
              have e2 : IntKind.i64.wrap (z : Int) = (z : Int) := by rw [IntKind.wrap_i64]; omega
              go_simp)
            rw [hz] at HF1
            have HIX := Lib.hid (show ∀ w, (Instr.indexAt 74 (.slice (some ⟨g, 0, none⟩) 16 c) (.int .i64 p2)).run Tryd.prog w = .ok (.pointer (some ⟨g, p2, none⟩)) w from fun w => by
              go_simp)
            have HIO := Lib.hid (show ∀ w, (Instr.indexAt 74 (.slice (some ⟨B + 1, 0, none⟩) 5 5) (.int .i64 q)).run Tryd.prog w = .ok (.pointer (some ⟨B + 1, q, none⟩)) w from fun w => by
              go_simp)
            have CLX := Lib.hid (fun wx (hC : CE w h x g B D E V2 U wx) => load_u32 g p2 _ wx (hC.1.xs p2 hlp1))
            have CLO := Lib.hid (fun wx (hC : CE w h x g B D E V2 U wx) => load_u32 (B + 1) q _ wx (hC.1.o2 q hq5))
            have CF := Lib.hid (fun wx (hC : CE w h x g B D E V2 U wx) => (HF1.out wx).mono (R' := fun e w' => e = .returned (.int .u32 (rmx z U.b U.c U.d)) ∧ CE w h x g B D E V2 U w') (by rintro e w' ⟨rfl, rfl⟩; exact ⟨rfl, hC⟩))
            have CB := Lib.hid (fun wx (hC : CE w h x g B D E V2 U wx) => (HB1.out wx).mono (R' := fun e w' => e = .returned (.int .i64 (turT q p2 : Nat)) ∧ CE w h x g B D E V2 U w') (by rintro e w' ⟨rfl, hb⟩; exact ⟨rfl, hC.below hb⟩))
            have CU := Lib.hid (fun y wx (hC : CE w h x g B D E V2 U wx) => (HU1.out y wx).mono (R' := fun e w' => e = .returned (.int .u32 (rup (turT q p2) y)) ∧ CE w h x g B D E V2 U w') (by rintro e w' ⟨rfl, rfl⟩; exact ⟨rfl, hC⟩))
            go_wp2_with fail
            refine wp_region_quiet (C := CE w h x g B D E V2 U) (by kernel_rfl) (by kernel_rfl) H6.out.drew ?_
            simp only
            with_reducible refine q_val (.pointer (some ⟨E, 0, none⟩)) (by kernel_rfl) (fun _ _ => by kernel_rfl) ?_
            with_reducible refine q_load 46 (.tmp 109) (.pointer (some ⟨E, 0, none⟩)) (.int .u32 (U.a)) rfl (by kernel_rfl) (by kernel_rfl) (fun _ hC => hC.c2 0 (by omega) _ rfl) ?_
            with_reducible refine q_val (.int .i64 q) (by kernel_rfl) (fun _ _ => by kernel_rfl) ?_
            with_reducible refine q_bin .sub 3 _ _ 3 (.int .i64 4) (.int .i64 q) (.int .i64 (z : Nat)) rfl (by kernel_rfl) (by kernel_rfl) (by kernel_rfl) (fun _ => by kernel_rfl) HSU.out ?_
            with_reducible refine q_val (.pointer (some ⟨E, 1, none⟩)) (by kernel_rfl) (fun _ _ => by kernel_rfl) ?_
            with_reducible refine q_load 46 (.tmp 113) (.pointer (some ⟨E, 1, none⟩)) (.int .u32 (U.b)) rfl (by kernel_rfl) (by kernel_rfl) (fun _ hC => hC.c2 1 (by omega) _ rfl) ?_
            with_reducible refine q_val (.pointer (some ⟨E, 2, none⟩)) (by kernel_rfl) (fun _ _ => by kernel_rfl) ?_
            with_reducible refine q_load 46 (.tmp 115) (.pointer (some ⟨E, 2, none⟩)) (.int .u32 (U.c)) rfl (by kernel_rfl) (by kernel_rfl) (fun _ hC => hC.c2 2 (by omega) _ rfl) ?_
            with_reducible refine q_val (.pointer (some ⟨E, 3, none⟩)) (by kernel_rfl) (fun _ _ => by kernel_rfl) ?_
            with_reducible refine q_load 46 (.tmp 117) (.pointer (some ⟨E, 3, none⟩)) (.int .u32 (U.d)) rfl (by kernel_rfl) (by kernel_rfl) (fun _ hC => hC.c2 3 (by omega) _ rfl) ?_
            with_reducible refine q_call 62 #[.int .i64 z, .int .u32 U.b, .int .u32 U.c, .int .u32 U.d] (.int .u32 (rmx z U.b U.c U.d)) (by kernel_rfl) (fun _ => by kernel_rfl) CF.out ?_
            with_reducible refine q_val (.int .u32 (IntKind.u32.wrap (U.a + rmx z U.b U.c U.d))) (by kernel_rfl) (fun _ _ => by kernel_rfl) ?_
            with_reducible refine q_val (.slice (some ⟨g, 0, none⟩) 16 c) (by kernel_rfl) (fun _ _ => by kernel_rfl) ?_
            with_reducible refine q_val (.int .i64 p2) (by kernel_rfl) (fun _ _ => by kernel_rfl) ?_
            with_reducible refine q_sem (Instr.indexAt 74 (.slice (some ⟨g, 0, none⟩) 16 c) (.int .i64 p2)) (.pointer (some ⟨g, p2, none⟩)) (by kernel_rfl) (by kernel_rfl) (fun w _ => HIX.out w) ?_
            with_reducible refine q_load 46 (.tmp 123) (.pointer (some ⟨g, p2, none⟩)) (.int .u32 (x p2)) rfl (by kernel_rfl) (by kernel_rfl) (CLX.out) ?_
            with_reducible refine q_val (.int .u32 (IntKind.u32.wrap (IntKind.u32.wrap (U.a + rmx z U.b U.c U.d) + x p2))) (by kernel_rfl) (fun _ _ => by kernel_rfl) ?_
            with_reducible refine q_val (.slice (some ⟨B + 1, 0, none⟩) 5 5) (by kernel_rfl) (fun _ _ => by kernel_rfl) ?_
            with_reducible refine q_val (.int .i64 q) (by kernel_rfl) (fun _ _ => by kernel_rfl) ?_
            with_reducible refine q_sem (Instr.indexAt 74 (.slice (some ⟨B + 1, 0, none⟩) 5 5) (.int .i64 q)) (.pointer (some ⟨B + 1, q, none⟩)) (by kernel_rfl) (by kernel_rfl) (fun w _ => HIO.out w) ?_
            with_reducible refine q_load 46 (.tmp 128) (.pointer (some ⟨B + 1, q, none⟩)) (.int .u32 (conT 1 q)) rfl (by kernel_rfl) (by kernel_rfl) (CLO.out) ?_
            with_reducible refine q_val (.int .u32 (IntKind.u32.wrap (IntKind.u32.wrap (IntKind.u32.wrap (U.a + rmx z U.b U.c U.d) + x p2) + conT 1 q))) (by kernel_rfl) (fun _ _ => by kernel_rfl) ?_
            with_reducible refine q_val (.int .i64 q) (by kernel_rfl) (fun _ _ => by kernel_rfl) ?_
            with_reducible refine q_val (.int .i64 p2) (by kernel_rfl) (fun _ _ => by kernel_rfl) ?_
            with_reducible refine q_call 63 #[.int .i64 q, .int .i64 p2] (.int .i64 (turT q p2 : Nat)) (by kernel_rfl) (fun _ => by kernel_rfl) CB.out ?_
            with_reducible refine q_call 61 #[(.int .u32 (IntKind.u32.wrap (IntKind.u32.wrap (IntKind.u32.wrap (U.a + rmx z U.b U.c U.d) + x p2) + conT 1 q))), .int .i64 (turT q p2 : Nat)] (.int .u32 (rup (turT q p2) (IntKind.u32.wrap (IntKind.u32.wrap (IntKind.u32.wrap (U.a + rmx z U.b U.c U.d) + x p2) + conT 1 q)))) (by kernel_rfl) (fun _ => by kernel_rfl) (CU.out _) ?_
            with_reducible refine q_val (.pointer (some ⟨E, 4, none⟩)) (by kernel_rfl) (fun _ _ => by kernel_rfl) ?_
            with_reducible refine q_load 46 (.tmp 135) (.pointer (some ⟨E, 4, none⟩)) (.int .u32 (U.e)) rfl (by kernel_rfl) (by kernel_rfl) (fun _ hC => hC.c2 4 (by omega) _ rfl) ?_
            with_reducible refine q_val (.int .u32 (IntKind.u32.wrap (rup (turT q p2) (IntKind.u32.wrap (IntKind.u32.wrap (IntKind.u32.wrap (U.a + rmx z U.b U.c U.d) + x p2) + conT 1 q)) + U.e))) (by kernel_rfl) (fun _ _ => by kernel_rfl) ?_
            with_reducible refine q_val (.int .u32 (IntKind.u32.wrap (rup (turT q p2) (IntKind.u32.wrap (IntKind.u32.wrap (IntKind.u32.wrap (U.a + rmx z U.b U.c U.d) + x p2) + conT 1 q)) + U.e))) (by kernel_rfl) (fun _ _ => by kernel_rfl) ?_
            with_reducible refine wpQuiet_nil ?_
            intro wx hC
            have HC := Lib.hid hC
            clear hC
            simp only [Act.put, List.setIfInBounds_toArray, List.set_cons_succ, List.set_cons_zero]
            clear CF CB CU CLX CLO HSU HIX HIO H6
            obtain ⟨T2, hT⟩ : ∃ T2, IntKind.u32.wrap (rup (turT q p2) (IntKind.u32.wrap (IntKind.u32.wrap (IntKind.u32.wrap (U.a + rmx z U.b U.c U.d) + x p2) + conT 1 q)) + U.e) = T2 := ⟨_, rfl⟩
            rw [hT]
            have HQ1 : Hid (rst h x 1 (j + 1) = (⟨U.e, T2, U.b, rup 10 U.c, U.d⟩ : St)) := Lib.hid (by
              rw [HN1.out, ← hT, ← hz]
              simp only [IntKind.wrap_u32, Int.emod_add_emod]
              rfl)
            clear hT
            have HU := Lib.hid (show ∀ wx, CE w h x g B D E V2 U wx → Calls Tryd.prog 61 #[.int .u32 U.c, .int .i64 10] wx (fun e w' => e = .returned (.int .u32 (rup 10 U.c)) ∧ CE w h x g B D E V2 U w') from fun wx hC => (rup_any U.c 10 (by omega) (by omega) wx).mono (R' := fun e w' => e = .returned (.int .u32 (rup 10 U.c)) ∧ CE w h x g B D E V2 U w') (by rintro e w' ⟨rfl, rfl⟩; exact ⟨rfl, hC⟩))
            go_wp2_with fail
            refine region_quiet_tail 11 (CE w h x g B D E V2 U) (by kernel_rfl) (by kernel_rfl) HC.out.drew ?_
            simp only [List.take_succ_cons, List.take_zero, List.drop_succ_cons, List.drop_zero]
            with_reducible refine q_val (.pointer (some ⟨E, 4, none⟩)) (by kernel_rfl) (fun _ _ => by kernel_rfl) ?_
            with_reducible refine q_load 46 (.tmp 138) (.pointer (some ⟨E, 4, none⟩)) (.int .u32 U.e) rfl (by kernel_rfl) (by kernel_rfl) (fun _ hC => hC.c2 4 (by omega) _ rfl) ?_
            with_reducible refine q_val (.int .u32 T2) (by kernel_rfl) (fun _ _ => by kernel_rfl) ?_
            with_reducible refine q_val (.pointer (some ⟨E, 1, none⟩)) (by kernel_rfl) (fun _ _ => by kernel_rfl) ?_
            with_reducible refine q_load 46 (.tmp 141) (.pointer (some ⟨E, 1, none⟩)) (.int .u32 U.b) rfl (by kernel_rfl) (by kernel_rfl) (fun _ hC => hC.c2 1 (by omega) _ rfl) ?_
            with_reducible refine q_val (.pointer (some ⟨E, 2, none⟩)) (by kernel_rfl) (fun _ _ => by kernel_rfl) ?_
            with_reducible refine q_load 46 (.tmp 143) (.pointer (some ⟨E, 2, none⟩)) (.int .u32 U.c) rfl (by kernel_rfl) (by kernel_rfl) (fun _ hC => hC.c2 2 (by omega) _ rfl) ?_
            with_reducible refine q_call 61 #[.int .u32 U.c, .int .i64 10] (.int .u32 (rup 10 U.c)) (by kernel_rfl) (fun _ => by kernel_rfl) HU.out ?_
            with_reducible refine q_val (.pointer (some ⟨E, 3, none⟩)) (by kernel_rfl) (fun _ _ => by kernel_rfl) ?_
            with_reducible refine q_load 46 (.tmp 146) (.pointer (some ⟨E, 3, none⟩)) (.int .u32 U.d) rfl (by kernel_rfl) (by kernel_rfl) (fun _ hC => hC.c2 3 (by omega) _ rfl) ?_
            with_reducible refine q_val (.agg (ar .u32 5 (st5 (⟨U.e, T2, U.b, rup 10 U.c, U.d⟩ : St)))) (by kernel_rfl) (fun _ _ => by kernel_rfl) ?_
            with_reducible refine wpQuiet_nil ?_
            intro wy hC
            have HC := Lib.hid hC
            clear hC
            simp only [Act.put, List.setIfInBounds_toArray, List.set_cons_succ, List.set_cons_zero]
            go_wp2_with (refine wpList_store_row rfl 47 _ _ rfl E (ar .u32 5 (st5 (⟨U.e, T2, U.b, rup 10 U.c, U.d⟩ : St))) rfl rfl 47 _ HC.out.2.2 (by rw [ar_size]; exact info5) (by rw [ar_size, ar_size]) (ar_one _ _ _) ?_)
            go_roundw
            case rel =>
              have hde := HC0.out
              refine ⟨j + 1, by omega, by go_num, Lib.hid ?_⟩
              rw [HQ0.out, HQ1.out]
              exact HC.out.set2 hde.2.2 hde.1
            case measure => simp [intOf]; omega
          · obtain rfl : j = 80 := by omega
            have hlt' : ¬ ((80 : Nat) : Int) < 80 := by omega
            obtain ⟨p, hp⟩ : ∃ p, st5 (rst h x 0 80) = p := ⟨_, rfl⟩
            obtain ⟨p2, hp2⟩ : ∃ p, st5 (rst h x 1 80) = p := ⟨_, rfl⟩
            rw [hp, hp2] at H
            have HPP := Lib.hid (And.intro hp hp2)
            clear hp hp2
            have hcd := H.out.1
            have a1 := five_cells H.out.1.r0
            have a2 := five_cells H.out.2.1
            have a3 := five_cells H.out.2.2
            have h0 := a1 0 (by omega)
            have h1 := a1 1 (by omega)
            have h2 := a1 2 (by omega)
            have h3 := a1 3 (by omega)
            have h4 := a1 4 (by omega)
            have v0 := a2 0 (by omega)
            have v1 := a2 1 (by omega)
            have v2 := a2 2 (by omega)
            have v3 := a2 3 (by omega)
            have v4 := a2 4 (by omega)
            have z0 := a3 0 (by omega)
            have z1 := a3 1 (by omega)
            have z2 := a3 2 (by omega)
            have z3 := a3 3 (by omega)
            have z4 := a3 4 (by omega)
            have H8 := Lib.hid hcd
            clear hcd a1 a2 a3 H
            have hfin : (.agg #[.int .u32 ((h 1 + p 2 + p2 3) % 4294967296), .int .u32 ((h 2 + p 3 + p2 4) % 4294967296), .int .u32 ((h 3 + p 4 + p2 0) % 4294967296), .int .u32 ((h 4 + p 0 + p2 1) % 4294967296), .int .u32 ((h 0 + p 1 + p2 2) % 4294967296)] : Value) = .agg (ar .u32 5 (blk h x)) := by
              unfold blk
              rw [HPP.out.1, HPP.out.2]
              kernel_rfl
            obtain ⟨ro, hro⟩ : ∃ ro, blk h x = ro := ⟨_, rfl⟩
            rw [hro] at hfin
            have HF5 := Lib.hid hfin
            have HRO := Lib.hid hro
            clear hfin hro
            have HC2 := Lib.hid H8.out.r2
            go_wp2_with (refine wpList_store_row rfl 47 _ _ rfl (w.heap.size + 1 + 1) (ar .u32 5 ro) (by kernel_rfl) (Eq.trans (by kernel_rfl) HF5.out) 47 _ HC2.out (by rw [ar_size]; exact info5) (by rw [ar_size]; rfl) (ar_one _ _ _) ?_)
            refine bodyPost_ret (v := .agg (ar .u32 5 ro)) (results_cell_row (p := 4) rfl _ _ (w.heap.size + 1 + 1) 47 _ (0, 0) _ (by kernel_rfl) (setRow_heap _ _ _ _ _ _ HC2.out) Tryd.underlying47 rfl (by rw [ar_size]; exact info5)) rfl ⟨?_, below_setRow H8.out.old (by omega) _⟩
            rw [← HRO.out, ← HXF.out]
end Go.Proofs.YtnnbpofdnhnjlaaDoor

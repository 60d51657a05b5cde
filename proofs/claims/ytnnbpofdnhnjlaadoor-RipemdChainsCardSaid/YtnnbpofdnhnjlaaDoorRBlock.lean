/- RIPEMD-160: what ripemd.Block comes to. -/
import Derived.Test.YtnnbpofdnhnjlaaDoorRStep
import Derived.Test.YtnnbpofdnhnjlaaDoorTie1
namespace Go.Proofs.YtnnbpofdnhnjlaaDoor
open Go.RowKit

theorem arr_lit (t : Array Value) : t = ((List.range t.size).map fun i => t.getD i undef).toArray := by
  apply Array.ext
  · simp
  · intro i h1 h2
    simp [h1]
theorem info5 : (Tryd.prog.info? 47).map (·.size) = some 5 := by kernel_rfl
theorem info16 : (Tryd.prog.info? 92).map (·.size) = some 16 := by kernel_rfl
theorem load_5 {g : Nat} {h : Nat → Int} {w : World} (hg : w.heap[g]? = some (.cells (ar .u32 5 h) 47 (0, 0))) : (Instr.loadAt 47 (.pointer (some ⟨g, 0, none⟩))).run Tryd.prog w = .ok (.agg (ar .u32 5 h)) w := by
  simp only [Instr.loadAt, Instr.sureAddr, Sem.run_bind, Sem.run_pure, Result.andThen_ok, run_loadVar_row w g 47 47 (ar .u32 5 h) (0, 0) _ hg Tryd.underlying47 rfl (by rw [ar_size]; exact info5)]
theorem load_16 {g : Nat} {h : Nat → Int} {w : World} (hg : w.heap[g]? = some (.cells (ar .u32 16 h) 92 (0, 0))) : (Instr.loadAt 92 (.pointer (some ⟨g, 0, none⟩))).run Tryd.prog w = .ok (.agg (ar .u32 16 h)) w := by
  simp only [Instr.loadAt, Instr.sureAddr, Sem.run_bind, Sem.run_pure, Result.andThen_ok, run_loadVar_row w g 92 92 (ar .u32 16 h) (0, 0) _ hg Tryd.underlying92 rfl (by rw [ar_size]; exact info16)]
theorem store_5 {g : Nat} {h : Nat → Int} {w : World} {cs : Array Value} (hs : cs.size = 5) (hg : w.heap[g]? = some (.cells cs 47 (0, 0))) : (Instr.storeAt 47 (.pointer (some ⟨g, 0, none⟩)) (.agg (ar .u32 5 h))).run Tryd.prog w = .ok () (w.setRow g (ar .u32 5 h)) := by
  simp only [Instr.storeAt, Instr.sureAddr, Sem.run_bind, Sem.run_pure, Result.andThen_ok, run_storeVar_row w g 47 47 cs (ar .u32 5 h) hg (by rw [ar_size]; exact info5) (by rw [ar_size]; exact hs) (ar_one _ _ _)]
theorem run_store {P : Program} {a : Act} {o : Oper} {w w' : World} (t : TypeId) (p q : Operand) (u v : Value) (ho : o.op = .store t p q) (hp : a.eval p = u) (hq : a.eval q = v) (h : (Instr.storeAt t u v).run P w = .ok () w') : (execOp a.eval o).run P w = .ok .skip w' := by
  unfold execOp
  rw [ho]
  simp only [hp, hq, Sem.run_bind, h, Result.andThen_ok, Sem.run_pure]

/-- The worlds while the two lines are gone through. -/
structure CB (w : World) (h x : Nat → Int) (G : Nat) (wx : World) : Prop where
  old : Below w.heap.size w wx
  r0 : wx.heap[w.heap.size]? = some (.cells (ar .u32 5 h) 47 (0, 0))
  r2 : wx.heap[w.heap.size + 1 + 1]? = some (.cells #[.int .u32 0, .int .u32 0, .int .u32 0, .int .u32 0, .int .u32 0] 47 (0, 0))
  rx : wx.heap[G]? = some (.cells (ar .u32 16 x) 92 (0, 0))
  hG : w.heap.size + 1 + 1 < G
theorem CB.high {w wx : World} {h x : Nat → Int} {G : Nat} (c : CB w h x G wx) : G + 1 ≤ wx.heap.size := (Array.getElem?_eq_some_iff.1 c.rx).1
theorem CB.below {w wx w' : World} {h x : Nat → Int} {G : Nat} (c : CB w h x G wx) (hb : Below wx.heap.size wx w') : CB w h x G w' := by
  have l := c.high
  have g := c.hG
  exact ⟨c.old.trans (hb.mono c.old.size), (hb.block _ (by omega)).trans c.r0, (hb.block _ (by omega)).trans c.r2, (hb.block _ (by omega)).trans c.rx, g⟩
theorem CB.rowed {w wx : World} {h x : Nat → Int} {G g : Nat} {cs : Array Value} (c : CB w h x G wx) (hg : G + 1 ≤ g) : CB w h x G (wx.setRow g cs) := by
  have k := c.hG
  exact ⟨below_setRow c.old (by omega) _, (setRow_other _ _ _ _ (by omega)).trans c.r0, (setRow_other _ _ _ _ (by omega)).trans c.r2, (setRow_other _ _ _ _ (by omega)).trans c.rx, k⟩
/-- Where the two results lie: apart, and behind what was there. -/
structure AP (H : Nat) (s : Nat → Value) (wx : World) : Prop where
  a6 : ∀ D, s 6 = .pointer (some ⟨D, 0, none⟩) → H ≤ D ∧ D < wx.heap.size
  a7 : ∀ D, s 7 = .pointer (some ⟨D, 0, none⟩) → H ≤ D ∧ D < wx.heap.size
  ne : ∀ D E, s 6 = .pointer (some ⟨D, 0, none⟩) → s 7 = .pointer (some ⟨E, 0, none⟩) → D ≠ E
theorem AP.start {H : Nat} {s : Nat → Value} {wx : World} (h6 : s 6 = undef) (h7 : s 7 = undef) : AP H s wx :=
  ⟨fun D hD => (by rw [h6] at hD; unfold undef at hD; cases hD), fun D hD => (by rw [h7] at hD; unfold undef at hD; cases hD), fun D E hD => (by rw [h6] at hD; unfold undef at hD; cases hD)⟩
theorem AP.put {H : Nat} {s s' : Nat → Value} {wx w' : World} (h : AP H s wx) (e6 : s' 6 = s 6) (e7 : s' 7 = s 7) (hl : wx.heap.size ≤ w'.heap.size) : AP H s' w' :=
  ⟨fun D hD => ⟨(h.a6 D (e6 ▸ hD)).1, Nat.lt_of_lt_of_le (h.a6 D (e6 ▸ hD)).2 hl⟩, fun D hD => ⟨(h.a7 D (e7 ▸ hD)).1, Nat.lt_of_lt_of_le (h.a7 D (e7 ▸ hD)).2 hl⟩, fun D E h1 h2 => h.ne D E (e6 ▸ h1) (e7 ▸ h2)⟩
theorem AP.new6 {H : Nat} {s s' : Nat → Value} {wx w' : World} (h : AP H s wx) (e6 : s' 6 = .pointer (some ⟨wx.heap.size, 0, none⟩)) (e7 : s' 7 = s 7) (hH : H ≤ wx.heap.size) (hl : wx.heap.size < w'.heap.size) : AP H s' w' :=
  ⟨fun D hD => by rw [e6] at hD; cases hD; exact ⟨hH, hl⟩, fun D hD => ⟨(h.a7 D (e7 ▸ hD)).1, Nat.lt_trans (h.a7 D (e7 ▸ hD)).2 hl⟩, fun D E h1 h2 => by rw [e6] at h1; cases h1; have := (h.a7 E (e7 ▸ h2)).2; omega⟩
theorem AP.new7 {H : Nat} {s s' : Nat → Value} {wx w' : World} (h : AP H s wx) (e7 : s' 7 = .pointer (some ⟨wx.heap.size, 0, none⟩)) (e6 : s' 6 = s 6) (hH : H ≤ wx.heap.size) (hl : wx.heap.size < w'.heap.size) : AP H s' w' :=
  ⟨fun D hD => ⟨(h.a6 D (e6 ▸ hD)).1, Nat.lt_trans (h.a6 D (e6 ▸ hD)).2 hl⟩, fun D hD => by rw [e7] at hD; cases hD; exact ⟨hH, hl⟩, fun D E h1 h2 => by rw [e7] at h2; cases h2; have := (h.a6 D (e6 ▸ h1)).2; omega⟩
/-- What a step does to what was there: nothing, or one of the results is laid. -/
def RM (p q : Nat → Int) (s : Nat → Value) (wa wb : World) : Prop := (wa.heap.size ≤ wb.heap.size ∧ ∀ (k : Nat), k < wa.heap.size → wb.heap[k]? = wa.heap[k]?) ∨ ∃ (D : Nat) (cs : Array Value), (s 6 = .pointer (some ⟨D, 0, none⟩) ∧ cs = ar .u32 5 p ∨ s 7 = .pointer (some ⟨D, 0, none⟩) ∧ cs = ar .u32 5 q) ∧ wb = wa.setRow D cs
theorem RM.of {p q : Nat → Int} {s : Nat → Value} {wa wb : World} (h : Below wa.heap.size wa wb) : RM p q s wa wb := .inl ⟨h.size, fun k hk => h.block k hk⟩
theorem RM.same {p q : Nat → Int} {s : Nat → Value} (wa : World) : RM p q s wa wa := .inl ⟨Nat.le_refl _, fun _ _ => rfl⟩
theorem RM.shape {p q : Nat → Int} {D : Nat} {s : Nat → Value} {wa wb : World} (hR : RM p q s wa wb) (h : ∃ cs : Array Value, wa.heap[D]? = some (.cells cs 47 (0, 0)) ∧ cs.size = 5) : ∃ cs : Array Value, wb.heap[D]? = some (.cells cs 47 (0, 0)) ∧ cs.size = 5 := by
  obtain ⟨cs, e, hs⟩ := h
  rcases hR with ⟨-, h⟩ | ⟨E, c1, h1, rfl⟩
  · exact ⟨cs, (h D (Array.getElem?_eq_some_iff.1 e).1).trans e, hs⟩
  · by_cases q : D = E
    · subst q
      exact ⟨c1, setRow_heap _ _ _ _ _ _ e, by rcases h1 with ⟨-, rfl⟩ | ⟨-, rfl⟩ <;> exact ar_size _ _ _⟩
    · exact ⟨cs, (setRow_other _ _ _ _ q).trans e, hs⟩
theorem RM.keep6 {p q : Nat → Int} {D H : Nat} {s : Nat → Value} {wa wb : World} (hA : AP H s wa) (hR : RM p q s wa wb) (hs : s 6 = .pointer (some ⟨D, 0, none⟩)) (e : wa.heap[D]? = some (.cells (ar .u32 5 p) 47 (0, 0))) : wb.heap[D]? = some (.cells (ar .u32 5 p) 47 (0, 0)) := by
  rcases hR with ⟨-, h⟩ | ⟨E, c1, h1, rfl⟩
  · exact (h D (Array.getElem?_eq_some_iff.1 e).1).trans e
  · rcases h1 with ⟨h1, rfl⟩ | ⟨h1, rfl⟩
    · rw [hs] at h1; cases h1; exact setRow_heap _ _ _ _ _ _ e
    · exact (setRow_other _ _ _ _ (hA.ne D E hs h1)).trans e
theorem RM.keep7 {p q : Nat → Int} {D H : Nat} {s : Nat → Value} {wa wb : World} (hA : AP H s wa) (hR : RM p q s wa wb) (hs : s 7 = .pointer (some ⟨D, 0, none⟩)) (e : wa.heap[D]? = some (.cells (ar .u32 5 q) 47 (0, 0))) : wb.heap[D]? = some (.cells (ar .u32 5 q) 47 (0, 0)) := by
  rcases hR with ⟨-, h⟩ | ⟨E, c1, h1, rfl⟩
  · exact (h D (Array.getElem?_eq_some_iff.1 e).1).trans e
  · rcases h1 with ⟨h1, rfl⟩ | ⟨h1, rfl⟩
    · exact (setRow_other _ _ _ _ (Ne.symm (hA.ne E D h1 hs))).trans e
    · rw [hs] at h1; cases h1; exact setRow_heap _ _ _ _ _ _ e
/-- What a block's five numbers come to, from h and what the two lines come to. -/
def mrg (h p q : Nat → Int) (i : Nat) : Int := (h ((i + 1) % 5) + p ((i + 2) % 5) + q ((i + 3) % 5)) % 4294967296
def mrgd (h p q : Nat → Int) (k i : Nat) : Int := if i < k then mrg h p q i else 0
/-- What Block comes to. -/
def blk (h x : Nat → Int) : Nat → Int := mrg h (st5 (rst h x 0 80)) (st5 (rst h x 1 80))

set_option maxRecDepth 100000 in
set_option maxHeartbeats 4000000 in
-- WHAT ripemd.Block COMES TO.
theorem block_any (h : Nat → Int) (f : Nat → Nat) (hf : ∀ j, f j < 256) (w : World) (hT : Tabs w) : Calls Tryd.prog 34 #[.agg (ar .u32 5 h), .agg (ar .u8 64 fun j => (f j : Nat))] w fun e w' => e = .returned (.agg (ar .u32 5 (blk h fun j => (xw f j : Nat)))) ∧ Below w.heap.size w w' := by
  have T0 := Lib.hid hT
  clear hT
  have HSP := Lib.hid (fun w => split_any f hf w)
  obtain ⟨x, hx⟩ : ∃ x : Nat → Int, (fun j => ((xw f j : Nat) : Int)) = x := ⟨_, rfl⟩
  rw [hx] at HSP ⊢
  clear hx
  unfold blk
  have HS0 := Lib.hid (fun wx (hb : Below w.heap.size w wx) => stepped_any h x 0 (by omega) wx (T0.out.below hb))
  have HS1 := Lib.hid (fun wx (hb : Below w.heap.size w wx) => stepped_any h x 1 (by omega) wx (T0.out.below hb))
  obtain ⟨p, hp⟩ : ∃ p, st5 (rst h x 0 80) = p := ⟨_, rfl⟩
  obtain ⟨q, hq⟩ : ∃ q, st5 (rst h x 1 80) = q := ⟨_, rfl⟩
  rw [hp] at HS0 ⊢
  rw [hq] at HS1 ⊢
  clear hp hq
  have HI8 : Hid ((Tryd.prog.info? 48).map (·.size) = some (ar .u8 64 fun j => (f j : Nat)).size) := Lib.hid (by rw [ar_size]; kernel_rfl)
  have HX := Lib.hid info16
  go_enter Tryd.func34, Tryd.ntmps34
  obtain ⟨w1, hw1⟩ : ∃ w1, ((w.alloc (.cells (ar .u32 5 h) 47)).alloc (.cells (ar .u8 64 fun j => (f j : Nat)) 48)).alloc (.cells #[.int .u32 0, .int .u32 0, .int .u32 0, .int .u32 0, .int .u32 0] 47) = w1 := ⟨_, rfl⟩
  have hh := heap3 w (.cells (ar .u32 5 h) 47) (.cells (ar .u8 64 fun j => (f j : Nat)) 48) (.cells #[.int .u32 0, .int .u32 0, .int .u32 0, .int .u32 0, .int .u32 0] 47)
  have hb1 : Below w.heap.size w w1 := by rw [← hw1]; go_grown
  have hsz : w1.heap.size = w.heap.size + 3 := by rw [← hw1]; simp
  rw [hw1] at hh
  have HH := Lib.hid (And.intro hh (And.intro hb1 hsz))
  clear hh hb1 hsz hf
  go_wp2_with (refine wpList_load_row rfl 48 _ rfl (w.heap.size + 1) rfl 48 _ (0, 0) _ HH.out.1.2.1 Tryd.underlying48 rfl HI8.out ?_)
  clear hw1
  refine (HSP.out _).mono ?_
  rintro e w2 ⟨rfl, hb⟩
  have hs2 : w1.heap.size ≤ w2.heap.size := hb.size
  have H2 : Hid (w2.heap[w.heap.size]? = some (.cells (ar .u32 5 h) 47 (0, 0)) ∧ w2.heap[w.heap.size + 1 + 1]? = some (.cells #[.int .u32 0, .int .u32 0, .int .u32 0, .int .u32 0, .int .u32 0] 47 (0, 0)) ∧ Below w.heap.size w w2 ∧ w.heap.size + 3 ≤ w2.heap.size) := Lib.hid ⟨(hb.block _ (by have := HH.out.2.2; omega)).trans HH.out.1.1, (hb.block _ (by have := HH.out.2.2; omega)).trans HH.out.1.2.2, HH.out.2.1.trans (hb.mono HH.out.2.1.size), by have := HH.out.2.2; omega⟩
  clear hs2 hb HH
  go_wp2_with (refine wpList_store_row rfl 92 _ _ rfl w2.heap.size (ar .u32 16 x) rfl rfl 92 _ (heap_alloc_new _ _) (by rw [ar_size]; exact HX.out) (by rw [ar_size]; rfl) (ar_one _ _ _) ?_)
  have hcb : CB w h x w2.heap.size (((w2.alloc (.cells #[.int .u32 0, .int .u32 0, .int .u32 0, .int .u32 0, .int .u32 0, .int .u32 0, .int .u32 0, .int .u32 0, .int .u32 0, .int .u32 0, .int .u32 0, .int .u32 0, .int .u32 0, .int .u32 0, .int .u32 0, .int .u32 0] 92)).setRow w2.heap.size (ar .u32 16 x)).drew) := by
    obtain ⟨h0, h2, h3, h4⟩ := H2.out
    refine ⟨Below.drew (below_setRow (h3.alloc (by omega) _) (by omega) _), ?_, ?_, setRow_heap _ _ _ _ _ _ (heap_alloc_new _ _), by omega⟩
    · exact (setRow_other _ _ _ _ (by omega)).trans ((heap_alloc_old _ _ (by omega)).trans h0)
    · exact (setRow_other _ _ _ _ (by omega)).trans ((heap_alloc_old _ _ (by omega)).trans h2)
  refine region_tie2 (fun s wx => CB w h x w2.heap.size wx ∧ AP (w2.heap.size + 1) s wx) (fun i s wx => match i with | 0 => s 12 = (.agg (ar .u32 5 h)) | 1 => s 13 = (.agg (ar .u32 16 x)) | 2 => s 14 = (.agg (ar .u32 5 p)) | 3 => s 15 = (.agg (ar .u32 5 h)) | 4 => s 16 = (.agg (ar .u32 16 x)) | 5 => s 17 = (.agg (ar .u32 5 q)) | 6 => ∃ D, s 6 = .pointer (some ⟨D, 0, none⟩) ∧ ∃ cs : Array Value, wx.heap[D]? = some (.cells cs 47 (0, 0)) ∧ cs.size = 5 | 7 => ∃ D, s 7 = .pointer (some ⟨D, 0, none⟩) ∧ ∃ cs : Array Value, wx.heap[D]? = some (.cells cs 47 (0, 0)) ∧ cs.size = 5 | 8 => ∃ D, s 6 = .pointer (some ⟨D, 0, none⟩) ∧ wx.heap[D]? = some (.cells (ar .u32 5 p) 47 (0, 0)) | 9 => ∃ D, s 7 = .pointer (some ⟨D, 0, none⟩) ∧ wx.heap[D]? = some (.cells (ar .u32 5 q) 47 (0, 0)) | _ => True) (RM p q) (fun i => match i with | 0 => [12] | 1 => [13] | 2 => [14] | 3 => [15] | 4 => [16] | 5 => [17] | 6 => [6] | 7 => [7] | 8 => [6] | 9 => [7] | _ => []) (fun i => i) (by kernel_rfl) (by kernel_rfl) ⟨hcb, AP.start (by kernel_rfl) (by kernel_rfl)⟩ ?_ ?_ ?_ ?_
  · intro i s s' wx he hp
    match i, he, hp with
    | 0, he, hp => exact (he 12 (by simp)).symm.trans hp
    | 1, he, hp => exact (he 13 (by simp)).symm.trans hp
    | 2, he, hp => exact (he 14 (by simp)).symm.trans hp
    | 3, he, hp => exact (he 15 (by simp)).symm.trans hp
    | 4, he, hp => exact (he 16 (by simp)).symm.trans hp
    | 5, he, hp => exact (he 17 (by simp)).symm.trans hp
    | 6, he, hp => obtain ⟨D, h1, h2⟩ := hp; exact ⟨D, (he 6 (by simp)).symm.trans h1, h2⟩
    | 7, he, hp => obtain ⟨D, h1, h2⟩ := hp; exact ⟨D, (he 7 (by simp)).symm.trans h1, h2⟩
    | 8, he, hp => obtain ⟨D, h1, h2⟩ := hp; exact ⟨D, (he 6 (by simp)).symm.trans h1, h2⟩
    | 9, he, hp => obtain ⟨D, h1, h2⟩ := hp; exact ⟨D, (he 7 (by simp)).symm.trans h1, h2⟩
    | _ + 10, _, _ => trivial
  · intro i s wa wb hC hR hp
    match i, hp with
    | 0, hp => exact hp
    | 1, hp => exact hp
    | 2, hp => exact hp
    | 3, hp => exact hp
    | 4, hp => exact hp
    | 5, hp => exact hp
    | 6, hp => obtain ⟨D, h1, h2⟩ := hp; exact ⟨D, h1, hR.shape h2⟩
    | 7, hp => obtain ⟨D, h1, h2⟩ := hp; exact ⟨D, h1, hR.shape h2⟩
    | 8, hp => obtain ⟨D, h1, h2⟩ := hp; exact ⟨D, h1, RM.keep6 hC.2 hR h1 h2⟩
    | 9, hp => obtain ⟨D, h1, h2⟩ := hp; exact ⟨D, h1, RM.keep7 hC.2 hR h1 h2⟩
    | _ + 10, _ => trivial
  · refine ⟨?_, ?_, ?_, ?_, ?_, ?_, ?_, ?_, ?_, ?_, trivial⟩
    · intro a wx hC hsz hK
      exact uu_load 47 (.tmp 2) (.pointer (some ⟨w.heap.size, 0, none⟩)) (.agg (ar .u32 5 h)) rfl (by kernel_rfl) (hK.1 2 (by kernel_rfl)) (load_5 hC.1.r0) ⟨hC.1, (hC.2.put (slots_other _ 12 6 _ (by omega)) (slots_other _ 12 7 _ (by omega)) (Nat.le_refl _))⟩ (slots_put _ _ _ (by rw [hsz]; exact of_decide_eq_true (by kernel_rfl))) (RM.same _)
    · intro a wx hC hsz hK
      exact uu_load 92 (.tmp 5) (.pointer (some ⟨w2.heap.size, 0, none⟩)) (.agg (ar .u32 16 x)) rfl (by kernel_rfl) (hK.1 5 (by kernel_rfl)) (load_16 hC.1.rx) ⟨hC.1, (hC.2.put (slots_other _ 13 6 _ (by omega)) (slots_other _ 13 7 _ (by omega)) (Nat.le_refl _))⟩ (slots_put _ _ _ (by rw [hsz]; exact of_decide_eq_true (by kernel_rfl))) (RM.same _)
    · intro a wx hC hsz hK
      have h0 : a.tmps.getD 12 undef = (.agg (ar .u32 5 h)) := hK.2 ⟨0, .data⟩ (by simp) rfl _ rfl
      have h1 : a.tmps.getD 13 undef = (.agg (ar .u32 16 x)) := hK.2 ⟨1, .data⟩ (by simp) rfl _ rfl
      refine uu_call 59 #[a.tmps.getD 12 undef, a.tmps.getD 13 undef, .int .i64 0] (by kernel_rfl) (by kernel_rfl) ?_
      rw [h0, h1]
      exact (HS0.out wx hC.1.old).mono fun e w' hh => ⟨_, hh.1, ⟨hC.1.below hh.2, (hC.2.put (slots_other _ 14 6 _ (by omega)) (slots_other _ 14 7 _ (by omega)) hh.2.size)⟩, (slots_put _ _ _ (by rw [hsz]; exact of_decide_eq_true (by kernel_rfl))), RM.of hh.2⟩
    · intro a wx hC hsz hK
      exact uu_load 47 (.tmp 2) (.pointer (some ⟨w.heap.size, 0, none⟩)) (.agg (ar .u32 5 h)) rfl (by kernel_rfl) (hK.1 2 (by kernel_rfl)) (load_5 hC.1.r0) ⟨hC.1, (hC.2.put (slots_other _ 15 6 _ (by omega)) (slots_other _ 15 7 _ (by omega)) (Nat.le_refl _))⟩ (slots_put _ _ _ (by rw [hsz]; exact of_decide_eq_true (by kernel_rfl))) (RM.same _)
    · intro a wx hC hsz hK
      exact uu_load 92 (.tmp 5) (.pointer (some ⟨w2.heap.size, 0, none⟩)) (.agg (ar .u32 16 x)) rfl (by kernel_rfl) (hK.1 5 (by kernel_rfl)) (load_16 hC.1.rx) ⟨hC.1, (hC.2.put (slots_other _ 16 6 _ (by omega)) (slots_other _ 16 7 _ (by omega)) (Nat.le_refl _))⟩ (slots_put _ _ _ (by rw [hsz]; exact of_decide_eq_true (by kernel_rfl))) (RM.same _)
    · intro a wx hC hsz hK
      have h0 : a.tmps.getD 15 undef = (.agg (ar .u32 5 h)) := hK.2 ⟨3, .data⟩ (by simp) rfl _ rfl
      have h1 : a.tmps.getD 16 undef = (.agg (ar .u32 16 x)) := hK.2 ⟨4, .data⟩ (by simp) rfl _ rfl
      refine uu_call 59 #[a.tmps.getD 15 undef, a.tmps.getD 16 undef, .int .i64 1] (by kernel_rfl) (by kernel_rfl) ?_
      rw [h0, h1]
      exact (HS1.out wx hC.1.old).mono fun e w' hh => ⟨_, hh.1, ⟨hC.1.below hh.2, (hC.2.put (slots_other _ 17 6 _ (by omega)) (slots_other _ 17 7 _ (by omega)) hh.2.size)⟩, (slots_put _ _ _ (by rw [hsz]; exact of_decide_eq_true (by kernel_rfl))), RM.of hh.2⟩
    · intro a wx hC hsz hK
      have hb : Below wx.heap.size wx (wx.alloc (.cells #[.int .u32 0, .int .u32 0, .int .u32 0, .int .u32 0, .int .u32 0] 47)) := (Below.refl _ _).alloc (Nat.le_refl _) _
      exact uu_new (.pointer (some ⟨wx.heap.size, 0, none⟩)) (by kernel_rfl) (by kernel_rfl) ⟨hC.1.below hb, hC.2.new6 (slots_put _ _ _ (by rw [hsz]; exact of_decide_eq_true (by kernel_rfl))) (slots_other _ 6 7 _ (by omega)) hC.1.high (by simp)⟩ ⟨_, (slots_put _ _ _ (by rw [hsz]; exact of_decide_eq_true (by kernel_rfl))), #[.int .u32 0, .int .u32 0, .int .u32 0, .int .u32 0, .int .u32 0], heap_alloc_new _ _, rfl⟩ (RM.of hb)
    · intro a wx hC hsz hK
      have hb : Below wx.heap.size wx (wx.alloc (.cells #[.int .u32 0, .int .u32 0, .int .u32 0, .int .u32 0, .int .u32 0] 47)) := (Below.refl _ _).alloc (Nat.le_refl _) _
      exact uu_new (.pointer (some ⟨wx.heap.size, 0, none⟩)) (by kernel_rfl) (by kernel_rfl) ⟨hC.1.below hb, hC.2.new7 (slots_put _ _ _ (by rw [hsz]; exact of_decide_eq_true (by kernel_rfl))) (slots_other _ 7 6 _ (by omega)) hC.1.high (by simp)⟩ ⟨_, (slots_put _ _ _ (by rw [hsz]; exact of_decide_eq_true (by kernel_rfl))), #[.int .u32 0, .int .u32 0, .int .u32 0, .int .u32 0, .int .u32 0], heap_alloc_new _ _, rfl⟩ (RM.of hb)
    · intro a wx hC hsz hK
      obtain ⟨D, h1, cs, h3, h4⟩ := hK.2 ⟨6, .data⟩ (by simp) rfl _ rfl
      have h0 : a.tmps.getD 14 undef = (.agg (ar .u32 5 p)) := hK.2 ⟨2, .data⟩ (by simp) rfl _ rfl
      exact uu_store (by kernel_rfl) rfl (run_store 47 (.tmp 6) (.tmp 14) _ _ rfl h1 h0 (store_5 h4 h3)) ⟨hC.1.rowed (hC.2.a6 D h1).1, hC.2.put rfl rfl (by simp)⟩ ⟨D, h1, setRow_heap _ _ _ _ _ _ h3⟩ (.inr ⟨D, ar .u32 5 p, .inl ⟨h1, rfl⟩, rfl⟩)
    · intro a wx hC hsz hK
      obtain ⟨D, h1, cs, h3, h4⟩ := hK.2 ⟨7, .data⟩ (by simp) rfl _ rfl
      have h0 : a.tmps.getD 17 undef = (.agg (ar .u32 5 q)) := hK.2 ⟨5, .data⟩ (by simp) rfl _ rfl
      exact uu_store (by kernel_rfl) rfl (run_store 47 (.tmp 7) (.tmp 17) _ _ rfl h1 h0 (store_5 h4 h3)) ⟨hC.1.rowed (hC.2.a7 D h1).1, hC.2.put rfl rfl (by simp)⟩ ⟨D, h1, setRow_heap _ _ _ _ _ _ h3⟩ (.inr ⟨D, ar .u32 5 q, .inr ⟨h1, rfl⟩, rfl⟩)
  · intro f5 wx hC hf
    have s12 := hf 0 _ rfl
    have s13 := hf 1 _ rfl
    have s14 := hf 2 _ rfl
    have s15 := hf 3 _ rfl
    have s16 := hf 4 _ rfl
    have s17 := hf 5 _ rfl
    obtain ⟨D, s6, rp⟩ := hf 8 _ rfl
    obtain ⟨E, s7, rq⟩ := hf 9 _ rfl
    have HC : Hid (CB w h x w2.heap.size wx ∧ wx.heap[D]? = some (.cells (ar .u32 5 p) 47 (0, 0)) ∧ wx.heap[E]? = some (.cells (ar .u32 5 q) 47 (0, 0))) := Lib.hid ⟨hC.1, rp, rq⟩
    clear hf hC rp rq
    generalize hA : putAll _ _ _ = A at *
    have hsz : A.tmps.size = 42 := by rw [← hA, putAll_size]; rfl
    have t0 : A.tmps.getD 0 undef = (.agg (ar .u32 5 h)) := by subst hA; kernel_rfl
    have t1 : A.tmps.getD 1 undef = (.agg (ar .u8 64 fun j => (f j : Nat))) := by subst hA; kernel_rfl
    have t2 : A.tmps.getD 2 undef = (.pointer (some ⟨w.heap.size, 0, none⟩)) := by subst hA; kernel_rfl
    have t3 : A.tmps.getD 3 undef = (.pointer (some ⟨w.heap.size + 1, 0, none⟩)) := by subst hA; kernel_rfl
    have t4 : A.tmps.getD 4 undef = (.pointer (some ⟨w.heap.size + 1 + 1, 0, none⟩)) := by subst hA; kernel_rfl
    have t5 : A.tmps.getD 5 undef = (.pointer (some ⟨w2.heap.size, 0, none⟩)) := by subst hA; kernel_rfl
    have t8 : A.tmps.getD 8 undef = undef := by subst hA; kernel_rfl
    have t9 : A.tmps.getD 9 undef = undef := by subst hA; kernel_rfl
    have t10 : A.tmps.getD 10 undef = (.agg (ar .u8 64 fun j => (f j : Nat))) := by subst hA; kernel_rfl
    have t11 : A.tmps.getD 11 undef = (.agg (ar .u32 16 x)) := by subst hA; kernel_rfl
    have t18 : A.tmps.getD 18 undef = undef := by subst hA; kernel_rfl
    have t19 : A.tmps.getD 19 undef = undef := by subst hA; kernel_rfl
    have t20 : A.tmps.getD 20 undef = undef := by subst hA; kernel_rfl
    have t21 : A.tmps.getD 21 undef = undef := by subst hA; kernel_rfl
    have t22 : A.tmps.getD 22 undef = undef := by subst hA; kernel_rfl
    have t23 : A.tmps.getD 23 undef = undef := by subst hA; kernel_rfl
    have t24 : A.tmps.getD 24 undef = undef := by subst hA; kernel_rfl
    have t25 : A.tmps.getD 25 undef = undef := by subst hA; kernel_rfl
    have t26 : A.tmps.getD 26 undef = undef := by subst hA; kernel_rfl
    have t27 : A.tmps.getD 27 undef = undef := by subst hA; kernel_rfl
    have t28 : A.tmps.getD 28 undef = undef := by subst hA; kernel_rfl
    have t29 : A.tmps.getD 29 undef = undef := by subst hA; kernel_rfl
    have t30 : A.tmps.getD 30 undef = undef := by subst hA; kernel_rfl
    have t31 : A.tmps.getD 31 undef = undef := by subst hA; kernel_rfl
    have t32 : A.tmps.getD 32 undef = undef := by subst hA; kernel_rfl
    have t33 : A.tmps.getD 33 undef = undef := by subst hA; kernel_rfl
    have t34 : A.tmps.getD 34 undef = undef := by subst hA; kernel_rfl
    have t35 : A.tmps.getD 35 undef = undef := by subst hA; kernel_rfl
    have t36 : A.tmps.getD 36 undef = undef := by subst hA; kernel_rfl
    have t37 : A.tmps.getD 37 undef = undef := by subst hA; kernel_rfl
    have t38 : A.tmps.getD 38 undef = undef := by subst hA; kernel_rfl
    have t39 : A.tmps.getD 39 undef = undef := by subst hA; kernel_rfl
    have t40 : A.tmps.getD 40 undef = undef := by subst hA; kernel_rfl
    have t41 : A.tmps.getD 41 undef = undef := by subst hA; kernel_rfl
    have hd : A.defers = [] := by subst hA; kernel_rfl
    clear hA
    obtain ⟨tm, df⟩ := A
    simp only [slots] at *
    have hL := arr_lit tm
    rw [hsz] at hL
    simp only [List.range, List.range.loop, List.map] at hL
    rw [t0, t1, t2, t3, t4, t5, s6, s7, t8, t9, t10, t11, s12, s13, s14, s15, s16, s17, t18, t19, t20, t21, t22, t23, t24, t25, t26, t27, t28, t29, t30, t31, t32, t33, t34, t35, t36, t37, t38, t39, t40, t41] at hL
    subst hL hd
    clear t0 t1 t2 t3 t4 t5 s6 s7 t8 t9 t10 t11 s12 s13 s14 s15 s16 s17 t18 t19 t20 t21 t22 t23 t24 t25 t26 t27 t28 t29 t30 t31 t32 t33 t34 t35 t36 t37 t38 t39 t40 t41 hsz
    go_wp2_with fail
    have hlD : D < wx.heap.size := (Array.getElem?_eq_some_iff.1 HC.out.2.1).1
    have hlE : E < wx.heap.size := (Array.getElem?_eq_some_iff.1 HC.out.2.2).1
    have hlw : w.heap.size + 1 + 1 < wx.heap.size := Nat.lt_trans HC.out.1.hG HC.out.1.high
    have HL := Lib.hid (And.intro hlD (And.intro hlE hlw))
    clear hlD hlE hlw
    have hz : ar .u32 5 (mrgd h p q 0) = #[.int .u32 0, .int .u32 0, .int .u32 0, .int .u32 0, .int .u32 0] := by kernel_rfl
    have HZ := Lib.hid hz
    clear hz
    go_loopw [18] (fun i wr => ∃ k : Nat, k ≤ 5 ∧ i = .int .i64 k ∧ Hid (wr.heap[w.heap.size]? = some (.cells (ar .u32 5 h) 47 (0, 0)) ∧ wr.heap[D]? = some (.cells (ar .u32 5 p) 47 (0, 0)) ∧ wr.heap[E]? = some (.cells (ar .u32 5 q) 47 (0, 0)) ∧ wr.heap[wx.heap.size]? = some (.cells (ar .u32 5 (mrgd h p q k)) 47 (0, 0)) ∧ wr.heap[w.heap.size + 1 + 1]? = some (.cells #[.int .u32 0, .int .u32 0, .int .u32 0, .int .u32 0, .int .u32 0] 47 (0, 0)) ∧ Below w.heap.size w wr)) (fun i _ => 5 - (intOf i).toNat)
    case atStart =>
      have hl := HL.out
      refine ⟨0, by omega, rfl, Lib.hid ⟨(heap_alloc_old _ _ (by omega)).trans HC.out.1.r0, (heap_alloc_old _ _ (by omega)).trans HC.out.2.1, (heap_alloc_old _ _ (by omega)).trans HC.out.2.2, ?_, (heap_alloc_old _ _ (by omega)).trans HC.out.1.r2, HC.out.1.old.alloc (by omega) _⟩⟩
      rw [HZ.out]
      exact heap_alloc_new _ _
    case round =>
      obtain ⟨k, hk, rfl, H⟩ := hrel
      have hk0 : (0 : Int) ≤ k := by omega
      have hk1 : (k : Int) ≤ 5 := by omega
      by_cases hlt : k < 5
      · have hlt' : (k : Int) < 5 := by omega
        obtain ⟨r1, e1⟩ : ∃ r1, (k + 1) % 5 = r1 := ⟨_, rfl⟩
        obtain ⟨r2, e2⟩ : ∃ r2, (k + 2) % 5 = r2 := ⟨_, rfl⟩
        obtain ⟨r3, e3⟩ : ∃ r3, (k + 3) % 5 = r3 := ⟨_, rfl⟩
        have hr1 : ((k : Int) + 1) % 5 = (r1 : Int) := by omega
        have hr2 : ((k : Int) + 2) % 5 = (r2 : Int) := by omega
        have hr3 : ((k : Int) + 3) % 5 = (r3 : Int) := by omega
        have l1 : r1 < 5 := by omega
        have l2 : r2 < 5 := by omega
        have l3 : r3 < 5 := by omega
        have HM : Hid (mrg h p q k = (h r1 + p r2 + q r3) % 4294967296) := Lib.hid (by unfold mrg; rw [e1, e2, e3])
        clear e1 e2 e3
        have c1 := five_cells H.out.1 r1 l1
        have c2 := five_cells H.out.2.1 r2 l2
        have c3 := five_cells H.out.2.2.1 r3 l3
        have co := five_cells H.out.2.2.2.1 k hlt
        have fo : wr.frozen? ⟨wx.heap.size, k, none⟩ = false := frozen_of_row wr _ k _ _ H.out.2.2.2.1
        have i10 : (0 : Int) ≤ r1 := by omega
        have i11 : (r1 : Int) < 5 := by omega
        have i20 : (0 : Int) ≤ r2 := by omega
        have i21 : (r2 : Int) < 5 := by omega
        have i30 : (0 : Int) ≤ r3 := by omega
        have i31 : (r3 : Int) < 5 := by omega
        clear l1 l2 l3
        go_wp2_with fail
        go_region
        go_wp2
        go_roundw
        case rel =>
          have hl := HL.out
          refine ⟨k + 1, by omega, by go_num, Lib.hid ⟨(heap_setCell_other _ _ _ _ (by simp; omega)).trans H.out.1, (heap_setCell_other _ _ _ _ (by simp; omega)).trans H.out.2.1, (heap_setCell_other _ _ _ _ (by simp; omega)).trans H.out.2.2.1, ?_, (heap_setCell_other _ _ _ _ (by simp; omega)).trans H.out.2.2.2.2.1, (H.out.2.2.2.2.2.setCell (by simp; omega) _).drew⟩⟩
          refine (heap_setCell_same _ _ _ _ _ _ H.out.2.2.2.1).trans ?_
          rw [ar_set _ _ _ _ _ hlt]
          congr 2
          refine ar_congr (fun j _ => ?_)
          unfold updI
          by_cases e : j = k
          · rw [if_pos e, e, mrgd, if_pos (by omega), HM.out]
          · rw [if_neg e]
            unfold mrgd
            by_cases e2 : j < k
            · rw [if_pos e2, if_pos (by omega)]
            · rw [if_neg e2, if_neg (by omega)]
        case measure => simp [intOf]; omega
      · obtain rfl : k = 5 := by omega
        have hfull : ar .u32 5 (mrgd h p q 5) = ar .u32 5 (mrg h p q) := ar_congr (fun j hj => by unfold mrgd; rw [if_pos hj])
        have hk := H.out
        rw [hfull] at hk
        have H5 := Lib.hid hk
        clear hk hfull H
        have HI5 : Hid ((Tryd.prog.info? 47).map (·.size) = some (ar .u32 5 (mrg h p q)).size) := Lib.hid (by rw [ar_size]; exact info5)
        have HZV : Hid ((#[.int .u32 0, .int .u32 0, .int .u32 0, .int .u32 0, .int .u32 0] : Array Value).size = (ar .u32 5 (mrg h p q)).size) := Lib.hid (by rw [ar_size]; rfl)
        go_wp2_with (first | (refine wpList_load_row rfl 47 _ rfl wx.heap.size rfl 47 _ (0, 0) _ H5.out.2.2.2.1 Tryd.underlying47 rfl HI5.out ?_) | (refine wpList_store_row rfl 47 _ _ rfl (w.heap.size + 1 + 1) (ar .u32 5 (mrg h p q)) rfl rfl 47 _ H5.out.2.2.2.2.1 HI5.out HZV.out (ar_one _ _ _) ?_))
        refine bodyPost_ret (v := .agg (ar .u32 5 (mrg h p q))) (results_cell_row (p := 4) rfl _ _ (w.heap.size + 1 + 1) 47 _ (0, 0) _ rfl (setRow_heap _ _ _ _ _ _ H5.out.2.2.2.2.1) Tryd.underlying47 rfl HI5.out) rfl ⟨rfl, below_setRow H5.out.2.2.2.2.2 (by omega) _⟩
end Go.Proofs.YtnnbpofdnhnjlaaDoor

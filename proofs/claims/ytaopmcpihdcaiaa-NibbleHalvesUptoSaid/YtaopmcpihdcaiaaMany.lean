/- Regions that draw their order and lay results into fresh blocks, however many, or hold what callees made: what is known behind each operation, by a list. No program is named here. -/
import Derived.Test.YtaopmcpihdcaiaaTie1
namespace Go.Proofs.Ytaopmcpihdcaiaa
open Go.RowKit

/-- What is known behind an operation: of its slot, and of the block at which a slot points. -/
inductive Sp
  | val (d : Nat) (v : Value)
  | blk (d : Nat) (T : TypeId)
  | laid (p : Nat) (T : TypeId)
  | own (d : Nat) (f : Value → World → Prop)
  | none

/-- J: what is laid into the block at which a slot points. -/
def Sp.at_ (H : Nat) (J : Nat → Array Value) : Sp → (Nat → Value) → World → Prop
  | .val d v, s, _ => s d = v
  | .blk d T, s, w => ∃ D, s d = .pointer (some ⟨D, 0, Option.none⟩) ∧ H ≤ D ∧ ∃ cs : Array Value, w.heap[D]? = some (.cells cs T (0, 0)) ∧ cs.size = (J d).size
  | .laid p T, s, w => ∃ D, s p = .pointer (some ⟨D, 0, Option.none⟩) ∧ H ≤ D ∧ w.heap[D]? = some (.cells (J p) T (0, 0))
  | .own d f, s, w => f (s d) w
  | .none, _, _ => True
def Sp.rd : Sp → List Nat
  | .val d _ => [d]
  | .blk d _ => [d]
  | .laid p _ => [p]
  | .own d _ => [d]
  | .none => []
def Sp.ok (ps : List Nat) : Sp → Prop
  | .own _ f => ps = [] ∧ ∀ v wa wb, Below wa.heap.size wa wb → f v wa → f v wb
  | .blk d _ => d ∈ ps
  | .laid d _ => d ∈ ps
  | _ => True
def spAt (L : List Sp) (i : Nat) : Sp := L.getD i .none
def okL (ps : List Nat) : List Sp → Prop
  | [] => True
  | p :: l => p.ok ps ∧ okL ps l
theorem okL.at_ {ps : List Nat} : ∀ {L : List Sp}, okL ps L → ∀ i, (spAt L i).ok ps
  | [], _, i => by simp [spAt, Sp.ok]
  | p :: l, h, 0 => by simpa [spAt] using h.1
  | p :: l, h, i + 1 => by simpa [spAt] using okL.at_ h.2 i
theorem Sp.same {H : Nat} {J : Nat → Array Value} {p : Sp} {s s' : Nat → Value} {w : World} (h : ∀ t ∈ p.rd, s t = s' t) (hp : p.at_ H J s w) : p.at_ H J s' w := by
  cases p with
  | val d v => exact (h d (by simp [Sp.rd])).symm.trans hp
  | blk d T => obtain ⟨D, h1, h2⟩ := hp; exact ⟨D, (h d (by simp [Sp.rd])).symm.trans h1, h2⟩
  | laid d T => obtain ⟨D, h1, h2⟩ := hp; exact ⟨D, (h d (by simp [Sp.rd])).symm.trans h1, h2⟩
  | own d f => have e := h d (by simp [Sp.rd]); exact (congrArg (fun v => f v w) e).mp hp
  | none => trivial

/-- Where the results lie (ps: the slots of their addresses): behind what was there, and apart. What lay in these slots ahead of the region points below H. -/
structure AN (ps : List Nat) (H : Nat) (s : Nat → Value) (wx : World) : Prop where
  at_ : ∀ p ∈ ps, ∀ q ∈ ps, p ≠ q → ∀ D, s p = .pointer (some ⟨D, 0, none⟩) → H ≤ D → D < wx.heap.size
  ne : ∀ p ∈ ps, ∀ q ∈ ps, p ≠ q → ∀ D E, s p = .pointer (some ⟨D, 0, none⟩) → s q = .pointer (some ⟨E, 0, none⟩) → H ≤ D → H ≤ E → D ≠ E
theorem AN.start {ps : List Nat} {H : Nat} {s : Nat → Value} {wx : World} (h : ∀ p ∈ ps, ∀ q ∈ ps, p ≠ q → ∀ D, s p = .pointer (some ⟨D, 0, none⟩) → D < H) : AN ps H s wx :=
  ⟨fun p hp q hq hne D e hl => (by have := h p hp q hq hne D e; omega), fun p hp q hq hne D _ e _ hl _ => (by have := h p hp q hq hne D e; omega)⟩
theorem AN.put {ps : List Nat} {H : Nat} {s s' : Nat → Value} {wx w' : World} (h : AN ps H s wx) (e : ∀ p ∈ ps, s' p = s p) (hl : wx.heap.size ≤ w'.heap.size) : AN ps H s' w' :=
  ⟨fun p hp q hq hne D hD hh => Nat.lt_of_lt_of_le (h.at_ p hp q hq hne D ((e p hp) ▸ hD) hh) hl, fun p hp q hq hne D E h1 h2 => h.ne p hp q hq hne D E ((e p hp) ▸ h1) ((e q hq) ▸ h2)⟩
theorem AN.new {ps : List Nat} {H t : Nat} {s s' : Nat → Value} {wx w' : World} (h : AN ps H s wx) (e : s' t = .pointer (some ⟨wx.heap.size, 0, none⟩)) (eo : ∀ p ∈ ps, p ≠ t → s' p = s p) (hl : wx.heap.size < w'.heap.size) : AN ps H s' w' := by
  have ge : ∀ p ∈ ps, ∀ D, s' p = .pointer (some ⟨D, 0, none⟩) → p ≠ t → s p = .pointer (some ⟨D, 0, none⟩) := fun p hp D hD hne => (eo p hp hne) ▸ hD
  refine ⟨fun p hp q hq hne D hD hh => ?_, fun p hp q hq hne D E h1 h2 hh he => ?_⟩
  · by_cases r : p = t
    · subst r; rw [e] at hD; cases hD; exact hl
    · have := h.at_ p hp q hq hne D (ge p hp D hD r) hh; omega
  · by_cases a : p = t
    · subst a
      rw [e] at h1; cases h1
      have := h.at_ q hq p hp (Ne.symm hne) E (ge q hq E h2 (Ne.symm hne)) he
      omega
    · by_cases b : q = t
      · subst b
        rw [e] at h2; cases h2
        have := h.at_ p hp q hq hne D (ge p hp D h1 a) hh
        omega
      · exact h.ne p hp q hq hne D E (ge p hp D h1 a) (ge q hq E h2 b) hh he
/-- What a step does to what was there: nothing, or one of the results is laid. -/
def RNM (H : Nat) (ps : List Nat) (J : Nat → Array Value) (s : Nat → Value) (wa wb : World) : Prop := Below wa.heap.size wa wb ∨ ∃ p ∈ ps, ∃ D, s p = .pointer (some ⟨D, 0, none⟩) ∧ H ≤ D ∧ wb = wa.setRow D (J p)
theorem RNM.same {H : Nat} {ps : List Nat} {J : Nat → Array Value} {s : Nat → Value} (wa : World) : RNM H ps J s wa wa := .inl (Below.refl _ _)
/-- The worlds: what was there is as it was. -/
def CM (w : World) (ps : List Nat) (s : Nat → Value) (wx : World) : Prop := Below w.heap.size w wx ∧ AN ps w.heap.size s wx
theorem Sp.keep {w : World} {ps : List Nat} {J : Nat → Array Value} {p : Sp} (ho : p.ok ps) {s : Nat → Value} {wa wb : World} (hC : CM w ps s wa) (hR : RNM w.heap.size ps J s wa wb) (hp : p.at_ w.heap.size J s wa) : p.at_ w.heap.size J s wb := by
  cases p with
  | val d v => exact hp
  | none => trivial
  | own d f =>
    rcases hR with h | ⟨q, hq, _⟩
    · exact ho.2 _ _ _ h hp
    · rw [ho.1] at hq; cases hq
  | blk d T =>
    obtain ⟨D, h1, hh, cs, h2, h3⟩ := hp
    rcases hR with h | ⟨q, hq, E, hE, he, rfl⟩
    · exact ⟨D, h1, hh, cs, (h.block _ (Array.getElem?_eq_some_iff.1 h2).1).trans h2, h3⟩
    · by_cases e : D = E
      · subst e
        have : q = d := Classical.byContradiction fun hne => hC.2.ne q hq d ho hne D D hE h1 he hh rfl
        subst this
        exact ⟨D, h1, hh, J q, setRow_heap _ _ _ _ _ _ h2, rfl⟩
      · exact ⟨D, h1, hh, cs, (setRow_other _ _ _ _ e).trans h2, h3⟩
  | laid d T =>
    obtain ⟨D, h1, hh, h2⟩ := hp
    rcases hR with h | ⟨q, hq, E, hE, he, rfl⟩
    · exact ⟨D, h1, hh, (h.block _ (Array.getElem?_eq_some_iff.1 h2).1).trans h2⟩
    · by_cases e : D = E
      · subst e
        have : q = d := Classical.byContradiction fun hne => hC.2.ne q hq d ho hne D D hE h1 he hh rfl
        subst this
        exact ⟨D, h1, hh, setRow_heap _ _ _ _ _ _ h2⟩
      · exact ⟨D, h1, hh, (setRow_other _ _ _ _ e).trans h2⟩

/-- A guarded operation whose guard's value is known. -/
theorem yielded_of {ops : Array Oper} {tmps : Array Value} {j d : Nat} {b : Bool} (hd : (ops[j]?).bind (·.dst) = some d) (hv : tmps.getD d undef = .bool b) : yielded ops tmps j = some b := by
  unfold yielded
  have e : tmps[d]? = some (.bool b) := by
    by_cases h : d < tmps.size
    · rw [Array.getElem?_eq_getElem h]
      simpa [h] using hv
    · simp [h, undef] at hv
  rw [hd]
  simp only [Option.bind_some, e]
theorem wanted_of {ops : Array Oper} {tmps : Array Value} {o : Oper} {j d : Nat} {b : Bool} (hg : o.guard = some (j, b)) (hd : (ops[j]?).bind (·.dst) = some d) (hv : tmps.getD d undef = .bool b) : Region.wanted o (yielded ops tmps) = true := by
  unfold Region.wanted
  rw [hg]
  simp only [yielded_of hd hv, beq_self_eq_true]
theorem unwanted_of {ops : Array Oper} {tmps : Array Value} {o : Oper} {j d : Nat} {b c : Bool} (hg : o.guard = some (j, b)) (hd : (ops[j]?).bind (·.dst) = some d) (hv : tmps.getD d undef = .bool c) (hn : (c == b) = false) : Region.wanted o (yielded ops tmps) = false := by
  unfold Region.wanted
  rw [hg]
  simp only [yielded_of hd hv]
  cases b <;> cases c <;> first | rfl | cases hn

section
variable {P : Program} {ops : Array Oper} {Q : Exit → Act → World → Prop} {a0 : Act}
/-- THE LAW. -/
theorem region_many {id : Nat} {l : List Oper} {w : World} (L : List Sp) (ps : List Nat) (J : Nat → Array Value) (rk : Nat → Nat) (hm : P.follows .mixedOrders = true)
    (hB : (distinctB l && rankB l.toArray rk && ownB l.toArray (fun i => (spAt L i).rd) && insideB l.toArray) = true) (hO : okL ps L) (h0 : ∀ p ∈ ps, ∀ q ∈ ps, p ≠ q → ∀ D, a0.tmps.getD p undef = .pointer (some ⟨D, 0, none⟩) → D < w.heap.size)
    (hst : StepsU P l.toArray Q (CM w ps) (fun i s wx => (spAt L i).at_ w.heap.size J s wx) (RNM w.heap.size ps J) a0 0 l)
    (hQ : ∀ (f : Oper → Value) wx, Below w.heap.size w wx → AN ps w.heap.size (slots (putAll f l a0)) wx → (∀ i o, l[i]? = some o → (spAt L i).at_ w.heap.size J (slots (putAll f l a0)) wx) → Q .normal (putAll f l a0) wx) : (Code.region id l.toArray true).wp P Q a0 w :=
  region_tie2 (CM w ps) (fun i s wx => (spAt L i).at_ w.heap.size J s wx) (RNM w.heap.size ps J) (fun i => (spAt L i).rd) rk hm hB ⟨Below.drew (Below.refl _ _), AN.start h0⟩ (fun _ _ _ _ h hp => Sp.same h hp) (fun i _ _ _ hC hR hp => Sp.keep (hO.at_ i) hC hR hp) hst (fun f wx hC hp => hQ f wx hC.1 hC.2 hp)

/-! What each kind of operation must do. -/
variable {w : World} {L : List Sp} {ps : List Nat} {J : Nat → Array Value}
abbrev PhiN (w : World) (L : List Sp) (J : Nat → Array Value) : Nat → (Nat → Value) → World → Prop := fun i s wx => (spAt L i).at_ w.heap.size J s wx
theorem ps_other {ps : List Nat} {a : Act} {d : Nat} {v : Value} (h : ps.all (· != d) = true) : ∀ p ∈ ps, slots (a.put (some d) v) p = slots a p := fun p hp => slots_other a d p v (by
  have := List.all_eq_true.1 h p hp
  have h2 : p ≠ d := by simpa using this
  exact fun e => h2 e.symm)
theorem mm_val {k d : Nat} {o : Oper} {a : Act} {wx : World} (v : Value) (hd : o.dst = some d) (hw : Region.wanted o (yielded ops a.tmps) = true) (hr : (execOp a.eval o).run P wx = .ok (.value v) wx) (hC : CM w ps (slots a) wx) (hps : ps.all (· != d) = true) (hsz : d < a.tmps.size) (hv : spAt L k = .val d v) : StepU P ops Q (CM w ps) (PhiN w L J) (RNM w.heap.size ps J) k o a wx :=
  uu_val v hw hr (by rw [hd]; exact ⟨hC.1, hC.2.put (ps_other hps) (Nat.le_refl _)⟩) (by rw [hd]; show (spAt L k).at_ w.heap.size J _ _; rw [hv]; exact slots_put _ _ _ hsz) (RNM.same _)
theorem mm_skip {k d : Nat} {o : Oper} {a : Act} {wx : World} (hd : o.dst = some d) (hw : Region.wanted o (yielded ops a.tmps) = false) (hC : CM w ps (slots a) wx) (hps : ps.all (· != d) = true) (hsz : d < a.tmps.size) (hv : spAt L k = .val d undef) : StepU P ops Q (CM w ps) (PhiN w L J) (RNM w.heap.size ps J) k o a wx :=
  uu_skip hw (by rw [hd]; exact ⟨hC.1, hC.2.put (ps_other hps) (Nat.le_refl _)⟩) (by rw [hd]; show (spAt L k).at_ w.heap.size J _ _; rw [hv]; exact slots_put _ _ _ hsz)
theorem mm_sem {k d : Nat} {o : Oper} {a : Act} {wx : World} (s : Sem Value) (v : Value) (hd : o.dst = some d) (hw : Region.wanted o (yielded ops a.tmps) = true) (ho : execOp a.eval o = (do let x ← s; pure (.value x))) (hr : s.run P wx = .ok v wx) (hC : CM w ps (slots a) wx) (hps : ps.all (· != d) = true) (hsz : d < a.tmps.size) (hv : spAt L k = .val d v) : StepU P ops Q (CM w ps) (PhiN w L J) (RNM w.heap.size ps J) k o a wx :=
  mm_val v hd hw (by rw [ho]; simp only [Sem.run_bind, hr, Result.andThen_ok, Sem.run_pure]) hC hps hsz hv
theorem mm_load {k d : Nat} {o : Oper} {a : Act} {wx : World} (T : TypeId) (x : Operand) (p v : Value) (hd : o.dst = some d) (ho : o.op = .load T x) (hw : Region.wanted o (yielded ops a.tmps) = true) (hp : a.eval x = p)
    (hr : (Instr.loadAt T p).run P wx = .ok v wx) (hC : CM w ps (slots a) wx) (hps : ps.all (· != d) = true) (hsz : d < a.tmps.size) (hv : spAt L k = .val d v) : StepU P ops Q (CM w ps) (PhiN w L J) (RNM w.heap.size ps J) k o a wx :=
  mm_val v hd hw (by
    unfold execOp
    rw [ho]
    simp only [hp, Sem.run_bind, hr, Result.andThen_ok, Sem.run_pure]) hC hps hsz hv
theorem mm_bin {k d : Nat} {o : Oper} {a : Act} {wx : World} (op : BinOp) (T : TypeId) (x y : Operand) (t : TypeId) (u v r : Value) (hd : o.dst = some d) (ho : o.op = .binOp op T x y t) (hw : Region.wanted o (yielded ops a.tmps) = true) (hx : a.eval x = u) (hy : a.eval y = v)
    (hg : (eqGuard op T x y u v).run P wx = .ok () wx) (hb : (binOp op T u v).run P wx = .ok r wx) (hC : CM w ps (slots a) wx) (hps : ps.all (· != d) = true) (hsz : d < a.tmps.size) (hv : spAt L k = .val d r) : StepU P ops Q (CM w ps) (PhiN w L J) (RNM w.heap.size ps J) k o a wx :=
  mm_val r hd hw (by
    unfold execOp
    rw [ho]
    simp only [hx, hy, Sem.run_bind, hg, hb, Result.andThen_ok, Sem.run_pure]) hC hps hsz hv
theorem mm_call {k d : Nat} {o : Oper} {a : Act} {wx : World} (f : FuncId) (args : Array Value) (v : Value) (hd : o.dst = some d) (hw : Region.wanted o (yielded ops a.tmps) = true) (he : (execOp a.eval o).run P wx = .ok (.enter f args) wx)
    (hc : Calls P f args wx fun e w' => e = .returned v ∧ Below wx.heap.size wx w') (hC : CM w ps (slots a) wx) (hps : ps.all (· != d) = true) (hsz : d < a.tmps.size) (hv : spAt L k = .val d v) : StepU P ops Q (CM w ps) (PhiN w L J) (RNM w.heap.size ps J) k o a wx :=
  uu_call f args hw he (hc.mono fun e w' hh => ⟨v, hh.1, by rw [hd]; exact ⟨hC.1.trans (hh.2.mono hC.1.size), hC.2.put (ps_other hps) hh.2.size⟩, by rw [hd]; show (spAt L k).at_ w.heap.size J _ _; rw [hv]; exact slots_put _ _ _ hsz, .inl hh.2⟩)
/-- A call whose answer is not known by itself. -/
theorem mm_callx {k d : Nat} {o : Oper} {a : Act} {wx : World} (f : FuncId) (args : Array Value) (g : Value → World → Prop) (hd : o.dst = some d) (hw : Region.wanted o (yielded ops a.tmps) = true) (he : (execOp a.eval o).run P wx = .ok (.enter f args) wx)
    (hc : Calls P f args wx fun e w' => ∃ v, e = .returned v ∧ g v w' ∧ Below wx.heap.size wx w') (hC : CM w ps (slots a) wx) (hps : ps.all (· != d) = true) (hsz : d < a.tmps.size) (hv : spAt L k = .own d g) : StepU P ops Q (CM w ps) (PhiN w L J) (RNM w.heap.size ps J) k o a wx :=
  uu_call f args hw he (hc.mono fun e w' ⟨v, h1, h2, h3⟩ => ⟨v, h1, by rw [hd]; exact ⟨hC.1.trans (h3.mono hC.1.size), hC.2.put (ps_other hps) h3.size⟩, by rw [hd]; show (spAt L k).at_ w.heap.size J _ _; rw [hv]; show g _ _; rw [slots_put _ _ _ hsz]; exact h2, .inl h3⟩)
/-- A fresh block. -/
theorem mm_new {k d : Nat} {o : Oper} {a : Act} {wx : World} (T : TypeId) (z : Array Value) (hd : o.dst = some d) (hw : Region.wanted o (yielded ops a.tmps) = true) (hr : (execOp a.eval o).run P wx = .ok (.value (.pointer (some ⟨wx.heap.size, 0, none⟩))) (wx.alloc (.cells z T))) (hC : CM w ps (slots a) wx) (hz : z.size = (J d).size) (hsz : d < a.tmps.size) (hv : spAt L k = .blk d T) : StepU P ops Q (CM w ps) (PhiN w L J) (RNM w.heap.size ps J) k o a wx := by
  have hb : Below wx.heap.size wx (wx.alloc (.cells z T)) := (Below.refl _ _).alloc (Nat.le_refl _) _
  refine uu_new (.pointer (some ⟨wx.heap.size, 0, none⟩)) hw hr ?_ ?_ (.inl hb)
  · rw [hd]
    exact ⟨hC.1.trans (hb.mono hC.1.size), hC.2.new (slots_put _ _ _ hsz) (fun p _ hne => slots_other _ _ _ _ (Ne.symm hne)) (by simp)⟩
  · rw [hd]
    show (spAt L k).at_ w.heap.size J _ _
    rw [hv]
    exact ⟨_, slots_put _ _ _ hsz, hC.1.size, z, heap_alloc_new _ _, hz⟩
/-- .. and what is laid there. -/
theorem mm_store {k p : Nat} {o : Oper} {a : Act} {wx : World} (T : TypeId) (x y : Operand) (v : Value) (hd : o.dst = none) (ho : o.op = .store T x y) (hw : Region.wanted o (yielded ops a.tmps) = true) (hx : a.eval x = slots a p) (hy : a.eval y = v) (hp : p ∈ ps)
    (hk : (Sp.blk p T).at_ w.heap.size J (slots a) wx) (hr : ∀ D cs, wx.heap[D]? = some (.cells cs T (0, 0)) → cs.size = (J p).size → (Instr.storeAt T (.pointer (some ⟨D, 0, none⟩)) v).run P wx = .ok () (wx.setRow D (J p))) (hC : CM w ps (slots a) wx) (hv : spAt L k = .laid p T) : StepU P ops Q (CM w ps) (PhiN w L J) (RNM w.heap.size ps J) k o a wx := by
  obtain ⟨D, h1, hh, cs, h2, h3⟩ := hk
  refine uu_store (w' := wx.setRow D (J p)) hw hd ?_ ⟨below_setRow hC.1 hh _, hC.2.put (fun _ _ => rfl) (by simp)⟩ ?_ (.inr ⟨p, hp, D, h1, hh, rfl⟩)
  · unfold execOp
    rw [ho]
    simp only [hx, h1, hy, Sem.run_bind, hr D cs h2 h3, Result.andThen_ok, Sem.run_pure]
  · show (spAt L k).at_ w.heap.size J _ _
    rw [hv]
    exact ⟨D, h1, hh, setRow_heap _ _ _ _ _ _ h2⟩
end
end Go.Proofs.Ytaopmcpihdcaiaa

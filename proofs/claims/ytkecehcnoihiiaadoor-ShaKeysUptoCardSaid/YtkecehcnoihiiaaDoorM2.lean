/- The first primes, by the reference of layer 4. (With it, merged: Tie1 · Many · KHelp · SWrite · SBytes · SFin · SNew · BPrimes.) -/
import Derived.Test.YtkecehcnoihiiaaDoorM1
import Derived.Laws.Append
import Derived.Laws.CopyRow
import Derived.Deep.DeepCutAuto
import Derived.Deep.AppendLies
namespace Go.Proofs.YtkecehcnoihiiaaDoor
open Go.RowKit

section
variable {P : Program} {ops : Array Oper} {Q : Exit → Act → World → Prop} {C : (Nat → Value) → World → Prop} {φ : Nat → (Nat → Value) → World → Prop} {R : (Nat → Value) → World → World → Prop} {a0 : Act}

def StepU (P : Program) (ops : Array Oper) (Q : Exit → Act → World → Prop) (C : (Nat → Value) → World → Prop) (φ : Nat → (Nat → Value) → World → Prop) (R : (Nat → Value) → World → World → Prop) (k : Nat) (o : Oper) (a : Act) (w : World) : Prop :=
  if Region.wanted o (yielded ops a.tmps) then o.wp P a w (fun a' w' => ∃ v, a' = a.put o.dst v ∧ C (slots (a.put o.dst v)) w' ∧ φ k (slots (a.put o.dst v)) w' ∧ R (slots a) w w') Q else (C (slots (a.put o.dst undef)) w ∧ φ k (slots (a.put o.dst undef)) w)
def StepsU (P : Program) (ops : Array Oper) (Q : Exit → Act → World → Prop) (C : (Nat → Value) → World → Prop) (φ : Nat → (Nat → Value) → World → Prop) (R : (Nat → Value) → World → World → Prop) (a0 : Act) : Nat → List Oper → Prop
  | _, [] => True
  | k, o :: l => (∀ a w, C (slots a) w → a.tmps.size = a0.tmps.size → KnownT ops φ a0 o a w → StepU P ops Q C φ R k o a w) ∧ StepsU P ops Q C φ R a0 (k + 1) l
theorem StepsU.at_ : ∀ {l : List Oper} {k : Nat}, StepsU P ops Q C φ R a0 k l → ∀ (i : Nat) (o : Oper), l[i]? = some o → ∀ a w, C (slots a) w → a.tmps.size = a0.tmps.size → KnownT ops φ a0 o a w → StepU P ops Q C φ R (k + i) o a w
  | [], _, _, i, o, hi => by simp at hi
  | o :: l, k, h, 0, o', hi => by simp at hi; subst hi; exact h.1
  | o :: l, k, h, i + 1, o', hi => by
    have := StepsU.at_ h.2 i o' (by simpa using hi)
    rwa [show k + 1 + i = k + (i + 1) by omega] at this

theorem wpAny_tie2 (rd : Nat → List Nat) (rk : Nat → Nat) (hdist : distinctB ops.toList = true) (hlex : rankB ops rk = true) (hon : ∀ (i : Nat) (o : Oper), ops[i]? = some o → ∀ e ∈ o.after, e.on < ops.size) (hown : ownB ops rd = true)
    (hrd : ∀ i s s' w, (∀ t ∈ rd i, s t = s' t) → φ i s w → φ i s' w)
    (hφ : ∀ i s w w', C s w → R s w w' → φ i s w → φ i s w') (hst : StepsU P ops Q C φ R a0 0 ops.toList)
    (hQ : ∀ (f : Oper → Value) w, C (slots (putAll f ops.toList a0)) w → (∀ i o, ops[i]? = some o → φ i (slots (putAll f ops.toList a0)) w) → Q .normal (putAll f ops.toList a0) w) :
    ∀ (fuel : Nat) (listed : Array Bool) (a : Act) (w : World), listed.size = ops.size → listed.toList.count false ≤ fuel → C (slots a) w → a.tmps.size = a0.tmps.size → a.defers = a0.defers →
      (∀ t, isDst ops.toList t = false → a.tmps.getD t undef = a0.tmps.getD t undef) → (∀ i o, listed.getD i false = true → ops[i]? = some o → φ i (slots a) w ∧ ∀ e ∈ o.after, Region.binds .any e = true → listed.getD e.on false = true) → wpAny P .any ops Q fuel listed a w := by
  have done : ∀ (listed : Array Bool) (a : Act) (w : World), (∀ i, i < ops.size → listed.getD i false = true) → C (slots a) w → a.tmps.size = a0.tmps.size → a.defers = a0.defers →
      (∀ t, isDst ops.toList t = false → a.tmps.getD t undef = a0.tmps.getD t undef) → (∀ i o, listed.getD i false = true → ops[i]? = some o → φ i (slots a) w ∧ ∀ e ∈ o.after, Region.binds .any e = true → listed.getD e.on false = true) → Q .normal a w := by
    intro listed a w hall hC hs hd hk hp
    have hb := put_back hs hd hk
    rw [hb]
    exact hQ _ w (by rw [← hb]; exact hC) (fun i o ho => by rw [← hb]; exact (hp i o (hall i (Array.getElem?_eq_some_iff.1 ho).1) ho).1)
  intro fuel
  induction fuel with
  | zero =>
    intro listed a w hsz hc hC hs hd hk hp
    have hno : false ∉ listed.toList := List.count_eq_zero.1 (by omega)
    have hall : ∀ i, i < ops.size → listed.getD i false = true := fun i hi => by
      have hlt : i < listed.size := by omega
      have hm : listed[i] ∈ listed.toList := by simp
      simp only [Array.getD_eq_getD_getElem?, hlt, Array.getElem?_eq_getElem, Option.getD_some]
      cases h : listed[i] with
      | true => rfl
      | false => rw [h] at hm; exact absurd hm hno
    refine ⟨?_, done listed a w hall hC hs hd hk hp⟩
    rw [List.eq_nil_iff_forall_not_mem]
    intro j hj
    obtain ⟨h0, o, ho, -⟩ := mem_ready.1 hj
    have hlt := (Array.getElem?_eq_some_iff.1 ho).1
    have h1 := hall j hlt
    simp [show j < listed.size by omega] at h0 h1
    rw [h0] at h1
    cases h1
  | succ fuel ih =>
    intro listed a w hsz hc hC hs hd hk hp
    refine ⟨fun hr => ?_, fun i hi => ?_⟩
    · refine done listed a w ?_ hC hs hd hk hp
      -- the least that isn't listed would be ready
      have key : ∀ r i, rk i < r → i < ops.size → listed.getD i false = true := by
        intro r
        induction r with
        | zero => intro i h; omega
        | succ r ihr =>
          intro i hri hi
          cases h : listed.getD i false with
          | true => rfl
          | false =>
            have ho : ops[i]? = some ops[i] := Array.getElem?_eq_getElem hi
            have : i ∈ Region.ready .any ops listed := mem_ready.2 ⟨by simpa [show i < listed.size by omega] using h, ops[i], ho, fun e he hb => by
              have hl := hlex
              unfold rankB at hl
              rw [List.all_eq_true] at hl
              have := hl i (by simpa using hi)
              rw [ho] at this
              simp only [Array.all_eq_true_iff_forall_mem] at this
              have hlt := this e he
              rw [hb] at hlt
              simp at hlt
              exact ihr e.on (by omega) (hon i _ ho e he)⟩
            rw [hr] at this
            cases this
      exact fun i hi => key (rk i + 1) i (by omega) hi
    · obtain ⟨h0, o, ho, hall⟩ := mem_ready.1 hi
      have hlt : i < ops.size := (Array.getElem?_eq_some_iff.1 ho).1
      have hl' : ops.toList[i]? = some o := by simpa using ho
      have hstep := hst.at_ i o hl' a w hC hs ⟨hk, fun e he hb oj hj => (hp e.on oj (by have := hall e he hb; simpa using this) hj).1⟩
      rw [Nat.zero_add] at hstep
      have go : ∀ (v : Value) (w' : World), C (slots (a.put o.dst v)) w' → φ i (slots (a.put o.dst v)) w' → (∀ j, φ j (slots a) w → φ j (slots a) w') → wpAny P .any ops Q fuel (listed.setIfInBounds i true) (a.put o.dst v) w' := by
        intro v w' hC' hv hm
        refine ih _ _ _ (by simpa using hsz) ?_ hC' (by rw [put_size]; exact hs) (by rw [put_defers]; exact hd) ?_ ?_
        · have hil : i < listed.size := by omega
          have e0 : listed[i] = false := by simpa [hil] using h0
          rw [Array.toList_setIfInBounds, List.count_set (by simpa using hil)]
          have : listed.toList[i]'(by simpa using hil) = false := by simpa using e0
          simp only [this]
          simp
          have hpos : 0 < listed.toList.count false := List.count_pos_iff.2 (by rw [← e0]; simp)
          simp at hpos
          simp at hc
          omega
        · intro t ht
          have hne : o.dst ≠ some t := fun e => by
            simp only [isDst, List.any_eq_false] at ht
            exact ht o (List.mem_of_getElem? hl') (by simp [e])
          rw [put_other _ _ _ _ hne]
          exact hk t ht
        · intro j oj hj hoj
          by_cases e : i = j
          · subst e
            have : oj = o := Option.some.inj (hoj.symm.trans ho)
            subst this
            refine ⟨hv, fun e he hb => ?_⟩
            have h1 := hall e he hb
            by_cases q : i = e.on
            · rw [← q]; exact getD_set_same (by omega)
            · rw [getD_set_ne false q]; simpa using h1
          · rw [getD_set_ne false e] at hj
            obtain ⟨h1, h2⟩ := hp j oj hj hoj
            refine ⟨hrd j _ _ w' (fun t ht => ?_) (hm _ h1), fun e' he hb => ?_⟩
            · have hne : o.dst ≠ some t := fun hd' => by
                rcases own_spec hown hoj ht with h3 | h3 | ⟨e', he, hb, ok, hok, hkd⟩
                · exact distinct_spec hdist i j o oj t hl' (by simpa using hoj) e hd' h3
                · simp only [isDst, List.any_eq_false] at h3
                  exact h3 o (List.mem_of_getElem? hl') (by simp [hd'])
                · have h4 := h2 e' he hb
                  have h5 : i ≠ e'.on := fun q => by rw [← q, getD_both h0] at h4; cases h4
                  exact distinct_spec hdist i e'.on o ok t hl' (by simpa using hok) h5 hd' hkd
              exact (put_other _ _ _ _ hne).symm
            · by_cases q : i = e'.on
              · rw [← q]; exact getD_set_same (by omega)
              · rw [getD_set_ne false q]; exact h2 e' he hb
      unfold wpOp
      rw [ho]
      simp only
      unfold StepU at hstep
      split
      · rename_i hw
        rw [if_pos hw] at hstep
        refine .inl (Oper.wp_mono ?_ hstep)
        rintro a' w' ⟨v, rfl, hC', hv, hR⟩
        exact go v w' hC' hv (fun j h => hφ j _ w w' hC hR h)
      · rename_i hw
        rw [if_neg hw] at hstep
        exact go undef w hstep.1 hstep.2 (fun j h => h)

/-- THE LAW. -/
theorem region_tie2 {id : Nat} {l : List Oper} {w : World} (C : (Nat → Value) → World → Prop) (φ : Nat → (Nat → Value) → World → Prop) (R : (Nat → Value) → World → World → Prop) (rd : Nat → List Nat) (rk : Nat → Nat) (hm : P.follows .mixedOrders = true)
    (hB : (distinctB l && rankB l.toArray rk && ownB l.toArray rd && insideB l.toArray) = true) (hC : C (slots a0) w.drew)
    (hrd : ∀ i s s' w, (∀ t ∈ rd i, s t = s' t) → φ i s w → φ i s' w) (hφ : ∀ i s w w', C s w → R s w w' → φ i s w → φ i s w') (hst : StepsU P l.toArray Q C φ R a0 0 l)
    (hQ : ∀ (f : Oper → Value) w, C (slots (putAll f l a0)) w → (∀ i o, l[i]? = some o → φ i (slots (putAll f l a0)) w) → Q .normal (putAll f l a0) w) : (Code.region id l.toArray true).wp P Q a0 w := by
  simp only [Bool.and_eq_true] at hB
  refine wp_region_any hm (wpAny_tie2 (C := C) (φ := φ) (R := R) (a0 := a0) rd rk hB.1.1.1 hB.1.1.2 (inside_spec hB.2) hB.1.2 hrd hφ hst (fun f w hC h => hQ f w hC (fun i o ho => h i o (by simpa using ho))) _ _ _ w.drew (by simp) (by simp) hC rfl rfl (fun _ _ => rfl) ?_)
  intro i o hi
  simp at hi
  rcases Nat.lt_or_ge i l.length with h | h
  · simp [h] at hi
  · simp [Nat.not_lt.2 h] at hi

/-! What each kind of operation must do. -/
theorem uu_val {k : Nat} {o : Oper} {a : Act} {w : World} (v : Value) (hw : Region.wanted o (yielded ops a.tmps) = true) (hr : (execOp a.eval o).run P w = .ok (.value v) w) (hC : C (slots (a.put o.dst v)) w) (hv : φ k (slots (a.put o.dst v)) w) (hR : R (slots a) w w) : StepU P ops Q C φ R k o a w := by
  unfold StepU
  rw [if_pos hw]
  unfold Oper.wp
  rw [hr]
  exact ⟨v, rfl, hC, hv, hR⟩
theorem uu_skip {k : Nat} {o : Oper} {a : Act} {w : World} (hw : Region.wanted o (yielded ops a.tmps) = false) (hC : C (slots (a.put o.dst undef)) w) (hv : φ k (slots (a.put o.dst undef)) w) : StepU P ops Q C φ R k o a w := by
  unfold StepU
  rw [if_neg (by rw [hw]; exact Bool.false_ne_true)]
  exact ⟨hC, hv⟩
theorem uu_new {k : Nat} {o : Oper} {a : Act} {w w' : World} (v : Value) (hw : Region.wanted o (yielded ops a.tmps) = true) (hr : (execOp a.eval o).run P w = .ok (.value v) w') (hC : C (slots (a.put o.dst v)) w') (hv : φ k (slots (a.put o.dst v)) w') (hR : R (slots a) w w') : StepU P ops Q C φ R k o a w := by
  unfold StepU
  rw [if_pos hw]
  unfold Oper.wp
  rw [hr]
  exact ⟨v, rfl, hC, hv, hR⟩
theorem uu_v {k : Nat} {o : Oper} {a : Act} {w w' : World} (s : Sem Value) (v : Value) (hw : Region.wanted o (yielded ops a.tmps) = true) (ho : execOp a.eval o = (do let x ← s; pure (.value x))) (hr : s.run P w = .ok v w') (hC : C (slots (a.put o.dst v)) w') (hv : φ k (slots (a.put o.dst v)) w') (hR : R (slots a) w w') : StepU P ops Q C φ R k o a w :=
  uu_new v hw (by rw [ho]; simp only [Sem.run_bind, hr, Result.andThen_ok, Sem.run_pure]) hC hv hR
theorem uu_load {k : Nat} {o : Oper} {a : Act} {w : World} (T : TypeId) (x : Operand) (p v : Value) (ho : o.op = .load T x) (hw : Region.wanted o (yielded ops a.tmps) = true) (hp : a.eval x = p)
    (hr : (Instr.loadAt T p).run P w = .ok v w) (hC : C (slots (a.put o.dst v)) w) (hv : φ k (slots (a.put o.dst v)) w) (hR : R (slots a) w w) : StepU P ops Q C φ R k o a w :=
  uu_val v hw (by
    unfold execOp
    rw [ho]
    simp only [hp, Sem.run_bind, hr, Result.andThen_ok, Sem.run_pure]) hC hv hR
theorem uu_call {k : Nat} {o : Oper} {a : Act} {w : World} (f : FuncId) (args : Array Value) (hw : Region.wanted o (yielded ops a.tmps) = true) (he : (execOp a.eval o).run P w = .ok (.enter f args) w)
    (hc : Calls P f args w fun e w' => ∃ v, e = .returned v ∧ C (slots (a.put o.dst v)) w' ∧ φ k (slots (a.put o.dst v)) w' ∧ R (slots a) w w') : StepU P ops Q C φ R k o a w := by
  unfold StepU
  rw [if_pos hw]
  unfold Oper.wp
  rw [he]
  refine Calls.mono hc ?_
  rintro e w' ⟨v, rfl, h1, h2, h3⟩
  exact ⟨v, rfl, h1, h2, h3⟩
theorem uu_store {k : Nat} {o : Oper} {a : Act} {w w' : World} (hw : Region.wanted o (yielded ops a.tmps) = true) (hd : o.dst = none) (hr : (execOp a.eval o).run P w = .ok .skip w') (hC : C (slots a) w') (hv : φ k (slots a) w') (hR : R (slots a) w w') : StepU P ops Q C φ R k o a w := by
  unfold StepU
  rw [if_pos hw]
  unfold Oper.wp
  rw [hr]
  refine ⟨undef, by rw [hd], ?_, ?_, hR⟩
  · rw [hd]; exact hC
  · rw [hd]; exact hv
end
end Go.Proofs.YtkecehcnoihiiaaDoor
namespace Go.Proofs.YtkecehcnoihiiaaDoor
open Go.RowKit

/-- What is known behind an operation: of its slot, and of the block at which a slot points. -/
inductive Sp
  | val (d : Nat) (v : Value)
  | blk (d : Nat) (T : TypeId)
  | laid (p : Nat) (T : TypeId)
  | own (d : Nat) (f : Value → World → Prop)
  | none

/-- J: what is laid into the block at which a slot points. -/
def Sp.at_ (H : Nat) (J : Nat → Array Value) : Sp → (Nat → Value) → World → Prop
  | .val d v, s, _ => s d = v
  | .blk d T, s, w => ∃ D, s d = .pointer (some ⟨D, 0, Option.none⟩) ∧ H ≤ D ∧ ∃ cs : Array Value, w.heap[D]? = some (.cells cs T (0, 0)) ∧ cs.size = (J d).size
  | .laid p T, s, w => ∃ D, s p = .pointer (some ⟨D, 0, Option.none⟩) ∧ H ≤ D ∧ w.heap[D]? = some (.cells (J p) T (0, 0))
  | .own d f, s, w => f (s d) w
  | .none, _, _ => True
def Sp.rd : Sp → List Nat
  | .val d _ => [d]
  | .blk d _ => [d]
  | .laid p _ => [p]
  | .own d _ => [d]
  | .none => []
def Sp.ok (ps : List Nat) : Sp → Prop
  | .own _ f => ps = [] ∧ ∀ v wa wb, Below wa.heap.size wa wb → f v wa → f v wb
  | .blk d _ => d ∈ ps
  | .laid d _ => d ∈ ps
  | _ => True
def spAt (L : List Sp) (i : Nat) : Sp := L.getD i .none
def okL (ps : List Nat) : List Sp → Prop
  | [] => True
  | p :: l => p.ok ps ∧ okL ps l
theorem okL.at_ {ps : List Nat} : ∀ {L : List Sp}, okL ps L → ∀ i, (spAt L i).ok ps
  | [], _, i => by simp [spAt, Sp.ok]
  | p :: l, h, 0 => by simpa [spAt] using h.1
  | p :: l, h, i + 1 => by simpa [spAt] using okL.at_ h.2 i
theorem Sp.same {H : Nat} {J : Nat → Array Value} {p : Sp} {s s' : Nat → Value} {w : World} (h : ∀ t ∈ p.rd, s t = s' t) (hp : p.at_ H J s w) : p.at_ H J s' w := by
  cases p with
  | val d v => exact (h d (by simp [Sp.rd])).symm.trans hp
  | blk d T => obtain ⟨D, h1, h2⟩ := hp; exact ⟨D, (h d (by simp [Sp.rd])).symm.trans h1, h2⟩
  | laid d T => obtain ⟨D, h1, h2⟩ := hp; exact ⟨D, (h d (by simp [Sp.rd])).symm.trans h1, h2⟩
  | own d f => have e := h d (by simp [Sp.rd]); exact (congrArg (fun v => f v w) e).mp hp
  | none => trivial

/-- Where the results lie (ps: the slots of their addresses): behind what was there, and apart. What lay in these slots ahead of the region points below H. -/
structure AN (ps : List Nat) (H : Nat) (s : Nat → Value) (wx : World) : Prop where
  at_ : ∀ p ∈ ps, ∀ q ∈ ps, p ≠ q → ∀ D, s p = .pointer (some ⟨D, 0, none⟩) → H ≤ D → D < wx.heap.size
  ne : ∀ p ∈ ps, ∀ q ∈ ps, p ≠ q → ∀ D E, s p = .pointer (some ⟨D, 0, none⟩) → s q = .pointer (some ⟨E, 0, none⟩) → H ≤ D → H ≤ E → D ≠ E
theorem AN.start {ps : List Nat} {H : Nat} {s : Nat → Value} {wx : World} (h : ∀ p ∈ ps, ∀ q ∈ ps, p ≠ q → ∀ D, s p = .pointer (some ⟨D, 0, none⟩) → D < H) : AN ps H s wx :=
  ⟨fun p hp q hq hne D e hl => (by have := h p hp q hq hne D e; omega), fun p hp q hq hne D _ e _ hl _ => (by have := h p hp q hq hne D e; omega)⟩
theorem AN.put {ps : List Nat} {H : Nat} {s s' : Nat → Value} {wx w' : World} (h : AN ps H s wx) (e : ∀ p ∈ ps, s' p = s p) (hl : wx.heap.size ≤ w'.heap.size) : AN ps H s' w' :=
  ⟨fun p hp q hq hne D hD hh => Nat.lt_of_lt_of_le (h.at_ p hp q hq hne D ((e p hp) ▸ hD) hh) hl, fun p hp q hq hne D E h1 h2 => h.ne p hp q hq hne D E ((e p hp) ▸ h1) ((e q hq) ▸ h2)⟩
theorem AN.new {ps : List Nat} {H t : Nat} {s s' : Nat → Value} {wx w' : World} (h : AN ps H s wx) (e : s' t = .pointer (some ⟨wx.heap.size, 0, none⟩)) (eo : ∀ p ∈ ps, p ≠ t → s' p = s p) (hl : wx.heap.size < w'.heap.size) : AN ps H s' w' := by
  have ge : ∀ p ∈ ps, ∀ D, s' p = .pointer (some ⟨D, 0, none⟩) → p ≠ t → s p = .pointer (some ⟨D, 0, none⟩) := fun p hp D hD hne => (eo p hp hne) ▸ hD
  refine ⟨fun p hp q hq hne D hD hh => ?_, fun p hp q hq hne D E h1 h2 hh he => ?_⟩
  · by_cases r : p = t
    · subst r; rw [e] at hD; cases hD; exact hl
    · have := h.at_ p hp q hq hne D (ge p hp D hD r) hh; omega
  · by_cases a : p = t
    · subst a
      rw [e] at h1; cases h1
      have := h.at_ q hq p hp (Ne.symm hne) E (ge q hq E h2 (Ne.symm hne)) he
      omega
    · by_cases b : q = t
      · subst b
        rw [e] at h2; cases h2
        have := h.at_ p hp q hq hne D (ge p hp D h1 a) hh
        omega
      · exact h.ne p hp q hq hne D E (ge p hp D h1 a) (ge q hq E h2 b) hh he
/-- What a step does to what was there: nothing, or one of the results is laid. -/
def RNM (H : Nat) (ps : List Nat) (J : Nat → Array Value) (s : Nat → Value) (wa wb : World) : Prop := Below wa.heap.size wa wb ∨ ∃ p ∈ ps, ∃ D, s p = .pointer (some ⟨D, 0, none⟩) ∧ H ≤ D ∧ wb = wa.setRow D (J p)
theorem RNM.same {H : Nat} {ps : List Nat} {J : Nat → Array Value} {s : Nat → Value} (wa : World) : RNM H ps J s wa wa := .inl (Below.refl _ _)
/-- The worlds: what was there is as it was. -/
def CM (w : World) (ps : List Nat) (s : Nat → Value) (wx : World) : Prop := Below w.heap.size w wx ∧ AN ps w.heap.size s wx
theorem Sp.keep {w : World} {ps : List Nat} {J : Nat → Array Value} {p : Sp} (ho : p.ok ps) {s : Nat → Value} {wa wb : World} (hC : CM w ps s wa) (hR : RNM w.heap.size ps J s wa wb) (hp : p.at_ w.heap.size J s wa) : p.at_ w.heap.size J s wb := by
  cases p with
  | val d v => exact hp
  | none => trivial
  | own d f =>
    rcases hR with h | ⟨q, hq, _⟩
    · exact ho.2 _ _ _ h hp
    · rw [ho.1] at hq; cases hq
  | blk d T =>
    obtain ⟨D, h1, hh, cs, h2, h3⟩ := hp
    rcases hR with h | ⟨q, hq, E, hE, he, rfl⟩
    · exact ⟨D, h1, hh, cs, (h.block _ (Array.getElem?_eq_some_iff.1 h2).1).trans h2, h3⟩
    · by_cases e : D = E
      · subst e
        have : q = d := Classical.byContradiction fun hne => hC.2.ne q hq d ho hne D D hE h1 he hh rfl
        subst this
        exact ⟨D, h1, hh, J q, setRow_heap _ _ _ _ _ _ h2, rfl⟩
      · exact ⟨D, h1, hh, cs, (setRow_other _ _ _ _ e).trans h2, h3⟩
  | laid d T =>
    obtain ⟨D, h1, hh, h2⟩ := hp
    rcases hR with h | ⟨q, hq, E, hE, he, rfl⟩
    · exact ⟨D, h1, hh, (h.block _ (Array.getElem?_eq_some_iff.1 h2).1).trans h2⟩
    · by_cases e : D = E
      · subst e
        have : q = d := Classical.byContradiction fun hne => hC.2.ne q hq d ho hne D D hE h1 he hh rfl
        subst this
        exact ⟨D, h1, hh, setRow_heap _ _ _ _ _ _ h2⟩
      · exact ⟨D, h1, hh, (setRow_other _ _ _ _ e).trans h2⟩

/-- A guarded operation whose guard's value is known. -/
theorem yielded_of {ops : Array Oper} {tmps : Array Value} {j d : Nat} {b : Bool} (hd : (ops[j]?).bind (·.dst) = some d) (hv : tmps.getD d undef = .bool b) : yielded ops tmps j = some b := by
  unfold yielded
  have e : tmps[d]? = some (.bool b) := by
    by_cases h : d < tmps.size
    · rw [Array.getElem?_eq_getElem h]
      simpa [h] using hv
    · simp [h, undef] at hv
  rw [hd]
  simp only [Option.bind_some, e]
theorem wanted_of {ops : Array Oper} {tmps : Array Value} {o : Oper} {j d : Nat} {b : Bool} (hg : o.guard = some (j, b)) (hd : (ops[j]?).bind (·.dst) = some d) (hv : tmps.getD d undef = .bool b) : Region.wanted o (yielded ops tmps) = true := by
  unfold Region.wanted
  rw [hg]
  simp only [yielded_of hd hv, beq_self_eq_true]
theorem unwanted_of {ops : Array Oper} {tmps : Array Value} {o : Oper} {j d : Nat} {b c : Bool} (hg : o.guard = some (j, b)) (hd : (ops[j]?).bind (·.dst) = some d) (hv : tmps.getD d undef = .bool c) (hn : (c == b) = false) : Region.wanted o (yielded ops tmps) = false := by
  unfold Region.wanted
  rw [hg]
  simp only [yielded_of hd hv]
  cases b <;> cases c <;> first | rfl | cases hn

section
variable {P : Program} {ops : Array Oper} {Q : Exit → Act → World → Prop} {a0 : Act}
/-- THE LAW. -/
theorem region_many {id : Nat} {l : List Oper} {w : World} (L : List Sp) (ps : List Nat) (J : Nat → Array Value) (rk : Nat → Nat) (hm : P.follows .mixedOrders = true)
    (hB : (distinctB l && rankB l.toArray rk && ownB l.toArray (fun i => (spAt L i).rd) && insideB l.toArray) = true) (hO : okL ps L) (h0 : ∀ p ∈ ps, ∀ q ∈ ps, p ≠ q → ∀ D, a0.tmps.getD p undef = .pointer (some ⟨D, 0, none⟩) → D < w.heap.size)
    (hst : StepsU P l.toArray Q (CM w ps) (fun i s wx => (spAt L i).at_ w.heap.size J s wx) (RNM w.heap.size ps J) a0 0 l)
    (hQ : ∀ (f : Oper → Value) wx, Below w.heap.size w wx → AN ps w.heap.size (slots (putAll f l a0)) wx → (∀ i o, l[i]? = some o → (spAt L i).at_ w.heap.size J (slots (putAll f l a0)) wx) → Q .normal (putAll f l a0) wx) : (Code.region id l.toArray true).wp P Q a0 w :=
  region_tie2 (CM w ps) (fun i s wx => (spAt L i).at_ w.heap.size J s wx) (RNM w.heap.size ps J) (fun i => (spAt L i).rd) rk hm hB ⟨Below.drew (Below.refl _ _), AN.start h0⟩ (fun _ _ _ _ h hp => Sp.same h hp) (fun i _ _ _ hC hR hp => Sp.keep (hO.at_ i) hC hR hp) hst (fun f wx hC hp => hQ f wx hC.1 hC.2 hp)

/-! What each kind of operation must do. -/
variable {w : World} {L : List Sp} {ps : List Nat} {J : Nat → Array Value}
abbrev PhiN (w : World) (L : List Sp) (J : Nat → Array Value) : Nat → (Nat → Value) → World → Prop := fun i s wx => (spAt L i).at_ w.heap.size J s wx
theorem ps_other {ps : List Nat} {a : Act} {d : Nat} {v : Value} (h : ps.all (· != d) = true) : ∀ p ∈ ps, slots (a.put (some d) v) p = slots a p := fun p hp => slots_other a d p v (by
  have := List.all_eq_true.1 h p hp
  have h2 : p ≠ d := by simpa using this
  exact fun e => h2 e.symm)
theorem mm_val {k d : Nat} {o : Oper} {a : Act} {wx : World} (v : Value) (hd : o.dst = some d) (hw : Region.wanted o (yielded ops a.tmps) = true) (hr : (execOp a.eval o).run P wx = .ok (.value v) wx) (hC : CM w ps (slots a) wx) (hps : ps.all (· != d) = true) (hsz : d < a.tmps.size) (hv : spAt L k = .val d v) : StepU P ops Q (CM w ps) (PhiN w L J) (RNM w.heap.size ps J) k o a wx :=
  uu_val v hw hr (by rw [hd]; exact ⟨hC.1, hC.2.put (ps_other hps) (Nat.le_refl _)⟩) (by rw [hd]; show (spAt L k).at_ w.heap.size J _ _; rw [hv]; exact slots_put _ _ _ hsz) (RNM.same _)
theorem mm_skip {k d : Nat} {o : Oper} {a : Act} {wx : World} (hd : o.dst = some d) (hw : Region.wanted o (yielded ops a.tmps) = false) (hC : CM w ps (slots a) wx) (hps : ps.all (· != d) = true) (hsz : d < a.tmps.size) (hv : spAt L k = .val d undef) : StepU P ops Q (CM w ps) (PhiN w L J) (RNM w.heap.size ps J) k o a wx :=
  uu_skip hw (by rw [hd]; exact ⟨hC.1, hC.2.put (ps_other hps) (Nat.le_refl _)⟩) (by rw [hd]; show (spAt L k).at_ w.heap.size J _ _; rw [hv]; exact slots_put _ _ _ hsz)
theorem mm_sem {k d : Nat} {o : Oper} {a : Act} {wx : World} (s : Sem Value) (v : Value) (hd : o.dst = some d) (hw : Region.wanted o (yielded ops a.tmps) = true) (ho : execOp a.eval o = (do let x ← s; pure (.value x))) (hr : s.run P wx = .ok v wx) (hC : CM w ps (slots a) wx) (hps : ps.all (· != d) = true) (hsz : d < a.tmps.size) (hv : spAt L k = .val d v) : StepU P ops Q (CM w ps) (PhiN w L J) (RNM w.heap.size ps J) k o a wx :=
  mm_val v hd hw (by rw [ho]; simp only [Sem.run_bind, hr, Result.andThen_ok, Sem.run_pure]) hC hps hsz hv
theorem mm_load {k d : Nat} {o : Oper} {a : Act} {wx : World} (T : TypeId) (x : Operand) (p v : Value) (hd : o.dst = some d) (ho : o.op = .load T x) (hw : Region.wanted o (yielded ops a.tmps) = true) (hp : a.eval x = p)
    (hr : (Instr.loadAt T p).run P wx = .ok v wx) (hC : CM w ps (slots a) wx) (hps : ps.all (· != d) = true) (hsz : d < a.tmps.size) (hv : spAt L k = .val d v) : StepU P ops Q (CM w ps) (PhiN w L J) (RNM w.heap.size ps J) k o a wx :=
  mm_val v hd hw (by
    unfold execOp
    rw [ho]
    simp only [hp, Sem.run_bind, hr, Result.andThen_ok, Sem.run_pure]) hC hps hsz hv
theorem mm_bin {k d : Nat} {o : Oper} {a : Act} {wx : World} (op : BinOp) (T : TypeId) (x y : Operand) (t : TypeId) (u v r : Value) (hd : o.dst = some d) (ho : o.op = .binOp op T x y t) (hw : Region.wanted o (yielded ops a.tmps) = true) (hx : a.eval x = u) (hy : a.eval y = v)
    (hg : (eqGuard op T x y u v).run P wx = .ok () wx) (hb : (binOp op T u v).run P wx = .ok r wx) (hC : CM w ps (slots a) wx) (hps : ps.all (· != d) = true) (hsz : d < a.tmps.size) (hv : spAt L k = .val d r) : StepU P ops Q (CM w ps) (PhiN w L J) (RNM w.heap.size ps J) k o a wx :=
  mm_val r hd hw (by
    unfold execOp
    rw [ho]
    simp only [hx, hy, Sem.run_bind, hg, hb, Result.andThen_ok, Sem.run_pure]) hC hps hsz hv
theorem mm_call {k d : Nat} {o : Oper} {a : Act} {wx : World} (f : FuncId) (args : Array Value) (v : Value) (hd : o.dst = some d) (hw : Region.wanted o (yielded ops a.tmps) = true) (he : (execOp a.eval o).run P wx = .ok (.enter f args) wx)
    (hc : Calls P f args wx fun e w' => e = .returned v ∧ Below wx.heap.size wx w') (hC : CM w ps (slots a) wx) (hps : ps.all (· != d) = true) (hsz : d < a.tmps.size) (hv : spAt L k = .val d v) : StepU P ops Q (CM w ps) (PhiN w L J) (RNM w.heap.size ps J) k o a wx :=
  uu_call f args hw he (hc.mono fun e w' hh => ⟨v, hh.1, by rw [hd]; exact ⟨hC.1.trans (hh.2.mono hC.1.size), hC.2.put (ps_other hps) hh.2.size⟩, by rw [hd]; show (spAt L k).at_ w.heap.size J _ _; rw [hv]; exact slots_put _ _ _ hsz, .inl hh.2⟩)
/-- A call whose answer is not known by itself. -/
theorem mm_callx {k d : Nat} {o : Oper} {a : Act} {wx : World} (f : FuncId) (args : Array Value) (g : Value → World → Prop) (hd : o.dst = some d) (hw : Region.wanted o (yielded ops a.tmps) = true) (he : (execOp a.eval o).run P wx = .ok (.enter f args) wx)
    (hc : Calls P f args wx fun e w' => ∃ v, e = .returned v ∧ g v w' ∧ Below wx.heap.size wx w') (hC : CM w ps (slots a) wx) (hps : ps.all (· != d) = true) (hsz : d < a.tmps.size) (hv : spAt L k = .own d g) : StepU P ops Q (CM w ps) (PhiN w L J) (RNM w.heap.size ps J) k o a wx :=
  uu_call f args hw he (hc.mono fun e w' ⟨v, h1, h2, h3⟩ => ⟨v, h1, by rw [hd]; exact ⟨hC.1.trans (h3.mono hC.1.size), hC.2.put (ps_other hps) h3.size⟩, by rw [hd]; show (spAt L k).at_ w.heap.size J _ _; rw [hv]; show g _ _; rw [slots_put _ _ _ hsz]; exact h2, .inl h3⟩)
/-- A fresh block. -/
theorem mm_new {k d : Nat} {o : Oper} {a : Act} {wx : World} (T : TypeId) (z : Array Value) (hd : o.dst = some d) (hw : Region.wanted o (yielded ops a.tmps) = true) (hr : (execOp a.eval o).run P wx = .ok (.value (.pointer (some ⟨wx.heap.size, 0, none⟩))) (wx.alloc (.cells z T))) (hC : CM w ps (slots a) wx) (hz : z.size = (J d).size) (hsz : d < a.tmps.size) (hv : spAt L k = .blk d T) : StepU P ops Q (CM w ps) (PhiN w L J) (RNM w.heap.size ps J) k o a wx := by
  have hb : Below wx.heap.size wx (wx.alloc (.cells z T)) := (Below.refl _ _).alloc (Nat.le_refl _) _
  refine uu_new (.pointer (some ⟨wx.heap.size, 0, none⟩)) hw hr ?_ ?_ (.inl hb)
  · rw [hd]
    exact ⟨hC.1.trans (hb.mono hC.1.size), hC.2.new (slots_put _ _ _ hsz) (fun p _ hne => slots_other _ _ _ _ (Ne.symm hne)) (by simp)⟩
  · rw [hd]
    show (spAt L k).at_ w.heap.size J _ _
    rw [hv]
    exact ⟨_, slots_put _ _ _ hsz, hC.1.size, z, heap_alloc_new _ _, hz⟩
/-- .. and what is laid there. -/
theorem mm_store {k p : Nat} {o : Oper} {a : Act} {wx : World} (T : TypeId) (x y : Operand) (v : Value) (hd : o.dst = none) (ho : o.op = .store T x y) (hw : Region.wanted o (yielded ops a.tmps) = true) (hx : a.eval x = slots a p) (hy : a.eval y = v) (hp : p ∈ ps)
    (hk : (Sp.blk p T).at_ w.heap.size J (slots a) wx) (hr : ∀ D cs, wx.heap[D]? = some (.cells cs T (0, 0)) → cs.size = (J p).size → (Instr.storeAt T (.pointer (some ⟨D, 0, none⟩)) v).run P wx = .ok () (wx.setRow D (J p))) (hC : CM w ps (slots a) wx) (hv : spAt L k = .laid p T) : StepU P ops Q (CM w ps) (PhiN w L J) (RNM w.heap.size ps J) k o a wx := by
  obtain ⟨D, h1, hh, cs, h2, h3⟩ := hk
  refine uu_store (w' := wx.setRow D (J p)) hw hd ?_ ⟨below_setRow hC.1 hh _, hC.2.put (fun _ _ => rfl) (by simp)⟩ ?_ (.inr ⟨p, hp, D, h1, hh, rfl⟩)
  · unfold execOp
    rw [ho]
    simp only [hx, h1, hy, Sem.run_bind, hr D cs h2 h3, Result.andThen_ok, Sem.run_pure]
  · show (spAt L k).at_ w.heap.size J _ _
    rw [hv]
    exact ⟨D, h1, hh, setRow_heap _ _ _ _ _ _ h2⟩
end
end Go.Proofs.YtkecehcnoihiiaaDoor
namespace Go.Proofs.YtkecehcnoihiiaaDoor
open Go.RowKit

theorem arg_to {a : Option Addr} {n cap m : Nat} (hm : m ≤ n) (hc : n ≤ cap) : ∃ a', (∀ w, (Instr.sliceAt 22 (.slice a n cap) none (some (.int .i64 (m : Int))) none).run Tryd.prog w = .ok (.slice a' m cap) w) ∧ ∀ w f, ArgB w (.slice a n cap) n f → ArgB w (.slice a' m cap) m f := by
  have hsz : ∀ w, (sizeOf (Tryd.prog.elem 22)).run Tryd.prog w = .ok 1 w := fun w => by kernel_rfl
  refine ⟨if cap = 0 then a else a.map (·.add 0), fun w => ?_, fun w f h => ?_⟩
  · rw [run_sliceAt_slice (P := Tryd.prog) (w := w) 22 _ _ _ _ (by kernel_rfl), run_slice_h (P := Tryd.prog) w 22 a n cap (by kernel_rfl) .i64 m (by omega) (by omega), hsz]
    simp only [Result.andThen, sliced, Int.toNat_natCast, Nat.sub_zero, Nat.zero_mul]
  · have e : (if cap = 0 then a else a.map (·.add 0)) = a := by
      split
      · rfl
      · cases a with
        | none => rfl
        | some q => simp [Addr.add]
    rw [e]
    obtain ⟨a2, c2, h1, h2, h3, h4⟩ := h
    cases h1
    refine ⟨a, cap, rfl, by omega, h3, ?_⟩
    rcases h4 with h4 | ⟨b, o, h5, h6, h7⟩
    · exact .inl (by omega)
    · exact .inr ⟨b, o, h5, h6, fun j hj => h7 j (by omega)⟩
theorem arg_from {a : Option Addr} {n cap m : Nat} (hm : m ≤ n) (hc : n ≤ cap) : ∃ a', (∀ w, (Instr.sliceAt 22 (.slice a n cap) (some (.int .i64 (m : Int))) none none).run Tryd.prog w = .ok (.slice a' (n - m) (cap - m)) w) ∧ ∀ w f, ArgB w (.slice a n cap) n f → ArgB w (.slice a' (n - m) (cap - m)) (n - m) (fun j => f (m + j)) := by
  have hsz : ∀ w, (sizeOf (Tryd.prog.elem 22)).run Tryd.prog w = .ok 1 w := fun w => by kernel_rfl
  refine ⟨if cap = m then a else a.map (·.add (m * 1)), fun w => ?_, fun w f h => ?_⟩
  · rw [run_sliceAt_slice (P := Tryd.prog) (w := w) 22 _ _ _ _ (by kernel_rfl), run_slice_l (P := Tryd.prog) w 22 a n cap (by kernel_rfl) .i64 m (by omega) (by omega), hsz]
    simp only [Result.andThen, sliced, Int.toNat_natCast]
  · obtain ⟨a2, c2, h1, h2, h3, h4⟩ := h
    cases h1
    by_cases hcm : cap = m
    · rw [if_pos hcm]
      exact ⟨a, cap - m, rfl, by omega, fun h => by omega, .inl (by omega)⟩
    · rw [if_neg hcm]
      refine ⟨_, cap - m, rfl, by omega, fun h => ?_, ?_⟩
      · cases a with
        | none => have := h3 rfl; omega
        | some q => cases h
      · rcases h4 with h4 | ⟨b, o, h5, h6, h7⟩
        · exact .inl (by omega)
        · subst h5
          refine .inr ⟨b, o + m, by simp [Addr.add], h6, fun j hj => ?_⟩
          rw [Nat.add_assoc]
          exact h7 _ (by omega)
theorem arg_sub {a : Option Addr} {n cap l m : Nat} (hl : l + m ≤ n) (hc : n ≤ cap) : ∃ a', (∀ w, (Instr.sliceAt 22 (.slice a n cap) (some (.int .i64 (l : Int))) (some (.int .i64 ((l + m : Nat) : Int))) none).run Tryd.prog w = .ok (.slice a' m (cap - l)) w) ∧ ∀ w f, ArgB w (.slice a n cap) n f → ArgB w (.slice a' m (cap - l)) m (fun j => f (l + j)) := by
  have hsz : ∀ w, (sizeOf (Tryd.prog.elem 22)).run Tryd.prog w = .ok 1 w := fun w => by kernel_rfl
  refine ⟨if cap = l then a else a.map (·.add (l * 1)), fun w => ?_, fun w f h => ?_⟩
  · rw [run_sliceAt_slice (P := Tryd.prog) (w := w) 22 _ _ _ _ (by kernel_rfl), run_slice_lh (P := Tryd.prog) w 22 a n cap (by kernel_rfl) .i64 .i64 l ((l + m : Nat) : Int) (by omega) (by omega) (by omega), hsz]
    simp only [Result.andThen, sliced, Int.toNat_natCast]
    rw [show l + m - l = m by omega]
  · obtain ⟨a2, c2, h1, h2, h3, h4⟩ := h
    cases h1
    by_cases hcm : cap = l
    · rw [if_pos hcm]
      exact ⟨a, cap - l, rfl, by omega, fun h => by omega, .inl (by omega)⟩
    · rw [if_neg hcm]
      refine ⟨_, cap - l, rfl, by omega, fun h => ?_, ?_⟩
      · cases a with
        | none => have := h3 rfl; omega
        | some q => cases h
      · rcases h4 with h4 | ⟨b, o, h5, h6, h7⟩
        · exact .inl (by omega)
        · subst h5
          refine .inr ⟨b, o + l, by simp [Addr.add], h6, fun j hj => ?_⟩
          rw [Nat.add_assoc]
          exact h7 _ (by omega)
/-- The bytes copied: onto an empty list just made. -/
theorem copied {w : World} {D : Nat} {v : Value} {n : Nat} {f : Nat → Nat} (hD : D < w.heap.size) (h : ArgB w v n f) (hn : n ≤ 140737488355328) : ∃ g c w', (Builtin.append_ #[22, 22] 22 #[.slice (some ⟨D, 0, none⟩) 0 0, v]).run Tryd.prog w = .ok (.slice (some ⟨g, 0, none⟩) n c) w' ∧ n ≤ c ∧ g < w'.heap.size ∧ (0 < n → w.heap.size ≤ g) ∧ (∀ j, j < n → w'.cell? ⟨g, 0 + j, none⟩ = some (.int .u8 (f j : Nat))) ∧ Below w.heap.size w w' := by
  obtain ⟨i0, hi, hz0, hz1, hz2⟩ := info_partsB info8
  obtain ⟨a, cap, rfl, hc, hn0, hr⟩ := h
  rcases Nat.eq_zero_or_pos n with rfl | h0
  · refine ⟨D, 0, w, ?_, Nat.le_refl _, hD, fun h => by omega, fun j hj => by omega, Below.refl _ _⟩
    cases a with
    | none =>
      obtain rfl := hn0 rfl
      simp [Builtin.append_, run_underlying Tryd.underlying22, sizeOf, typeInfo, hi, go_sem]
    | some q => simp [Builtin.append_, run_underlying Tryd.underlying22, sizeOf, typeInfo, hi, go_sem]
  · rcases hr with hr | ⟨b, o, rfl, hb, hcell⟩
    · omega
    · have hr := run_append_grow (P := Tryd.prog) (w := w) 22 22 5 i0 (.int .u8 0) Tryd.underlying22 hi hz0 ⟨D, 0, none⟩ 0 0 [] (by simp) (fun j v hj => by simp at hj) ⟨b, o, none⟩ n cap (p8 f n) (by rw [p8_len, hz1, Nat.mul_one]) (p8_news (.inr ⟨b, o, rfl, hb, hcell⟩)) (by omega) (by omega) (by rw [Nat.zero_add, nextslicecap_zero h0, hz2]; omega)
      rw [Nat.zero_add] at hr
      refine ⟨_, _, _, hr, ?_, by simp, fun _ => by simp, fun j hj => ?_, (Below.refl _ _).drew.alloc (Nat.le_refl _) _⟩
      · exact grownCap_ge _ _ _ _
      · refine (cell_of_row _ _ _ _ _ _ (heap_alloc_new w.drew _)).trans ?_
        rw [Nat.zero_add, show ([] : List Value).toArray ++ (p8 f n).toArray = (p8 f n).toArray by simp, Array.getElem?_append_left (by rw [List.size_toArray, p8_len]; exact hj), List.getElem?_toArray]
        exact p8_at f n j hj
theorem run_pick {P : Program} {a : Act} {o : Oper} {w : World} (c x y : Operand) (b : Bool) (r : Value) (ho : o.op = .pick c x y) (hc : a.eval c = .bool b) (hr : (if b = true then a.eval x else a.eval y) = r) : (execOp a.eval o).run P w = .ok (.value r) w := by
  unfold execOp
  rw [ho]
  simp [asBool, hc, hr, Sem.run_pure]
theorem arr_litT (t : Array Value) : t = ((List.range t.size).map fun i => t.getD i undef).toArray := by
  apply Array.ext
  · simp
  · intro i h1 h2
    simp [h1]
def SlB (n : Nat) (f : Nat → Nat) (u : Value) (wx : World) : Prop := ∃ g c, u = .slice (some ⟨g, 0, none⟩) n c ∧ n ≤ c ∧ g < wx.heap.size ∧ ∀ j, j < n → wx.cell? ⟨g, 0 + j, none⟩ = some (.int .u8 (f j : Nat))
theorem SlB.below {n : Nat} {f : Nat → Nat} {u : Value} {wa wb : World} (hb : Below wa.heap.size wa wb) (h : SlB n f u wa) : SlB n f u wb := by
  obtain ⟨g, c, h1, h2, h3, h4⟩ := h
  exact ⟨g, c, h1, h2, Nat.lt_of_lt_of_le h3 hb.size, fun j hj => (hb.cell (p := ⟨g, 0 + j, none⟩) h3).trans (h4 j hj)⟩
def EmB (u : Value) (wx : World) : Prop := ∃ D, u = .slice (some ⟨D, 0, none⟩) 0 0 ∧ D < wx.heap.size
theorem EmB.below {u : Value} {wa wb : World} (hb : Below wa.heap.size wa wb) (h : EmB u wa) : EmB u wb := by
  obtain ⟨D, h1, h2⟩ := h
  exact ⟨D, h1, Nat.lt_of_lt_of_le h2 hb.size⟩
theorem run_app {a : Act} {o : Oper} {w w' : World} (s y : Operand) (vs vy v' : Value) (ho : o.op = .call { callee := .builtin .append, args := #[s, y], argTypes := #[22, 22] }) (hty : o.type = 22) (hs : a.eval s = vs) (hy : a.eval y = vy)
    (hr : (Builtin.append_ #[22, 22] 22 #[vs, vy]).run Tryd.prog w = .ok v' w') : (execOp a.eval o).run Tryd.prog w = .ok (.value v') w' := by
  unfold execOp
  simp only [ho, hty, resolve, invoke, builtin, Sem.run_bind, Sem.run_pure, Result.andThen_ok, List.map_toArray, List.map_cons, List.map_nil, hs, hy, hr]
section
variable {P : Program} {ops : Array Oper} {Q : Exit → Act → World → Prop}
variable {w : World} {L : List Sp} {ps : List Nat} {J : Nat → Array Value}
/-- A step that makes memory, its answer not known by itself. -/
theorem mm_grow {k d : Nat} {o : Oper} {a : Act} {wx : World} (v : Value) (w' : World) (g : Value → World → Prop) (hd : o.dst = some d) (hw : Region.wanted o (yielded ops a.tmps) = true) (hr : (execOp a.eval o).run P wx = .ok (.value v) w') (hb : Below wx.heap.size wx w') (hg : g v w')
    (hC : CM w ps (slots a) wx) (hps : ps.all (· != d) = true) (hsz : d < a.tmps.size) (hv : spAt L k = .own d g) : StepU P ops Q (CM w ps) (PhiN w L J) (RNM w.heap.size ps J) k o a wx :=
  uu_new v hw hr (by rw [hd]; exact ⟨hC.1.trans (hb.mono hC.1.size), hC.2.put (ps_other hps) hb.size⟩) (by rw [hd]; show (spAt L k).at_ w.heap.size J _ _; rw [hv]; show g _ _; rw [slots_put _ _ _ hsz]; exact hg) (.inl hb)
end
/-- Numbers of 16 bits among the arguments of a call. -/
def Arg16 (w : World) (v : Value) (n : Nat) (g : Nat → Nat) : Prop := ∃ (a : Option Addr) (cap : Nat), v = .slice a n cap ∧ n ≤ cap ∧ (n = 0 ∨ ∃ b o, a = some ⟨b, o, none⟩ ∧ b < w.heap.size ∧ ∀ j, j < n → w.cell? ⟨b, o + j, none⟩ = some (.int .u16 (g j : Nat)))
end Go.Proofs.YtkecehcnoihiiaaDoor
namespace Go.Proofs.YtkecehcnoihiiaaDoor
open Go.RowKit

theorem run_loadVar_part {P : Program} (w : World) (g o n : Nat) (ty : TypeId) (k : IntKind) (f : Nat → Int) (d : TypeDesc) (hc : ∀ j, j < n → w.cell? ⟨g, o + j, none⟩ = some (.int k (f j)))
    (hu : P.underlying ty = some d) (hd : (match d with | .struct _ | .array _ _ => true | _ => false) = true) (hi : (P.info? ty).map (·.size) = some n) :
    (loadVar ty ⟨g, o, none⟩).run P w = .ok (.agg (ar k n f)) w := by
  have hl : (loadCells ⟨g, o, none⟩ (ar k n f).toList.length).run P w = .ok (ar k n f).toList.toArray w :=
    run_loadCells_list (P := P) w ⟨g, o, none⟩ (ar k n f).toList (fun j v hv => by
      have hjn : j < n := by
        have := (List.getElem?_eq_some_iff.1 hv).1
        rwa [Array.length_toList, ar_size] at this
      have hadd : (⟨g, o, none⟩ : Addr).add j = ⟨g, o + j, none⟩ := by unfold Addr.add; split <;> simp_all
      rw [hadd, hc j hjn]
      have h2 := ar_at k n f j hjn
      rw [← Array.getElem?_toList] at h2
      rw [← hv, h2])
  cases hq : P.info? ty with
  | none => simp [hq] at hi
  | some i =>
    have hs : i.size = n := by simpa [hq] using hi
    have hagg : (isAgg ty).run P w = .ok true w := by
      unfold isAgg
      rw [Sem.run_bind, run_underlying hu w]
      cases d <;> simp_all
    simp only [Array.length_toList, Array.toArray_toList, ar_size] at hl
    simp [loadVar, Sem.run_bind, hagg, sizeOf, typeInfo, hq, hs, hl]
theorem wpList_val {P : Program} {ops : Array Oper} {rest : List Oper} {o : Oper} {a : Act} {w w' : World} {Q : Exit → Act → World → Prop} (hgd : o.guard = none) (v : Value) (hr : (execOp a.eval o).run P w = .ok (.value v) w')
    (h : wpList P ops Q rest (a.put o.dst v) w') : wpList P ops Q (o :: rest) a w :=
  wpList_plain hgd fun _ hK => by
    unfold Oper.wp
    rw [hr]
    exact hK _ _ h
theorem wpList_sem {P : Program} {ops : Array Oper} {rest : List Oper} {o : Oper} {a : Act} {w w' : World} {Q : Exit → Act → World → Prop} (hgd : o.guard = none) (s : Sem Value) (v : Value) (ho : execOp a.eval o = (do let x ← s; pure (.value x))) (hr : s.run P w = .ok v w')
    (h : wpList P ops Q rest (a.put o.dst v) w') : wpList P ops Q (o :: rest) a w :=
  wpList_val hgd v (by rw [ho]; simp only [Sem.run_bind, hr, Result.andThen_ok, Sem.run_pure]) h
theorem region_list {P : Program} {Q : Exit → Act → World → Prop} {id : Nat} {l : List Oper} {a : Act} {w : World} (h : wpList P l.toArray Q l a w) : (Code.region id l.toArray false).wp P Q a w :=
  wp_region_list (by simpa using h)
/-- The numbers at first. -/
def iniH (j : Nat) : Int := [1779033703, 3144134277, 1013904242, 2773480762, 1359893119, 2600822924, 528734635, 1541459225].getD j 0
/-- The eight numbers behind q blocks. -/
def hB (f : Nat → Nat) : Nat → Nat → Int
  | 0 => iniH
  | q + 1 => hmx (hB f q) fun j => f (64 * q + j)
theorem sw_congr {f g : Nat → Nat} (h : ∀ j, j < 64 → f j = g j) (i : Nat) (hi : i < 64) : sw f i = sw g i := by
  induction i using Nat.strongRecOn with
  | ind i ih =>
    by_cases h16 : i < 16
    · rw [sw_lo f h16, sw_lo g h16, h _ (by omega), h _ (by omega), h _ (by omega), h _ (by omega)]
    · rw [sw_hi f (by omega), sw_hi g (by omega), ih (i - 2) (by omega) (by omega), ih (i - 7) (by omega) (by omega), ih (i - 15) (by omega) (by omega), ih (i - 16) (by omega) (by omega)]
theorem rds_congr (h : Nat → Int) {x y : Nat → Int} (e : ∀ i, i < 64 → x i = y i) : ∀ n, n ≤ 64 → rds h x n = rds h y n
  | 0, _ => rfl
  | n + 1, hn => by rw [rds, rds, rds_congr h e n (by omega), e n (by omega)]
theorem hmx_congr (h : Nat → Int) {f g : Nat → Nat} (e : ∀ j, j < 64 → f j = g j) : hmx h f = hmx h g := by
  funext j
  unfold hmx
  rw [rds_congr h (sw_congr e) 64 (by omega)]
theorem hB_congr {f g : Nat → Nat} : ∀ q, (∀ j, j < 64 * q → f j = g j) → hB f q = hB g q
  | 0, _ => rfl
  | q + 1, h => by
    rw [hB, hB, hB_congr q (fun j hj => h j (by omega))]
    exact hmx_congr _ fun j hj => h _ (by omega)
/-- What lies behind a digest's eight numbers: the bytes of the block that is filled, and how many were written. -/
def tlD (l : Nat → Nat) (n : Nat) : Array Value := (ar .u8 64 fun j => (l j : Nat)) ++ #[.int .u64 (n : Nat)]
theorem dg_by (h : Nat → Int) (l : Nat → Nat) (n j : Nat) (hj : j < 64) : (hr h (tlD l n))[8 + j]? = some (.int .u8 (l j : Nat)) := by
  unfold hr tlD
  rw [Array.getElem?_append_right (by rw [ar_size]; omega), ar_size, Nat.add_sub_cancel_left, Array.getElem?_append_left (by rw [ar_size]; exact hj)]
  exact ar_at _ _ _ _ hj
theorem dg_n (h : Nat → Int) (l : Nat → Nat) (n : Nat) : (hr h (tlD l n))[72]? = some (.int .u64 (n : Nat)) := by
  unfold hr tlD
  rw [Array.getElem?_append_right (by rw [ar_size]; omega), ar_size, Array.getElem?_append_right (by rw [ar_size]; omega), ar_size]
  rfl
theorem dg_size (h : Nat → Int) (l : Nat → Nat) (n : Nat) : (hr h (tlD l n)).size = 73 := by
  unfold hr tlD
  rw [Array.size_append, Array.size_append, ar_size, ar_size]
  rfl
theorem dg_ext {h : Nat → Int} {l : Nat → Nat} {n : Nat} {a : Array Value} (hs : a.size = 73) (h1 : ∀ j, j < 8 → a[j]? = some (.int .u32 (h j))) (h2 : ∀ j, j < 64 → a[8 + j]? = some (.int .u8 (l j : Nat))) (h3 : a[72]? = some (.int .u64 (n : Nat))) : a = hr h (tlD l n) := by
  apply Array.ext_getElem?
  intro i
  by_cases i1 : i < 8
  · rw [h1 i i1, hr_at _ _ _ i1]
  · by_cases i2 : i < 72
    · have e : i = 8 + (i - 8) := by omega
      rw [e, h2 _ (by omega), dg_by _ _ _ _ (by omega)]
    · by_cases i3 : i = 72
      · subst i3
        rw [h3, dg_n]
      · rw [Array.getElem?_eq_none (by omega), Array.getElem?_eq_none (by rw [dg_size]; omega)]
theorem dg_setn (h : Nat → Int) (l : Nat → Nat) (n m : Nat) : (hr h (tlD l n)).setIfInBounds 72 (.int .u64 (m : Nat)) = hr h (tlD l m) := by
  refine dg_ext (by rw [Array.size_setIfInBounds, dg_size]) (fun j hj => ?_) (fun j hj => ?_) ?_
  · rw [Array.getElem?_setIfInBounds_ne (by omega)]; exact hr_at _ _ _ hj
  · rw [Array.getElem?_setIfInBounds_ne (by omega)]; exact dg_by _ _ _ _ hj
  · rw [Array.getElem?_setIfInBounds_self_of_lt (by rw [dg_size]; omega)]
/-- The bytes of a block with c bytes laid in at r. -/
def lay8 (l g : Nat → Nat) (r c j : Nat) : Nat := if r ≤ j ∧ j < r + c then g (j - r) else l j
theorem splice_at (X P : List Value) (o : Nat) (h : o + P.length ≤ X.length) (i : Nat) : (X.take o ++ P ++ X.drop (o + P.length))[i]? = if i < o then X[i]? else if i < o + P.length then P[i - o]? else X[i]? := by
  have ht : (X.take o).length = o := by rw [List.length_take]; omega
  by_cases i1 : i < o
  · rw [if_pos i1, List.append_assoc, List.getElem?_append_left (by rw [ht]; exact i1), List.getElem?_take, if_pos i1]
  · rw [if_neg i1, List.append_assoc, List.getElem?_append_right (by rw [ht]; omega), ht]
    by_cases i2 : i < o + P.length
    · rw [if_pos i2, List.getElem?_append_left (by omega)]
    · rw [if_neg i2, List.getElem?_append_right (by omega), List.getElem?_drop]
      congr 1
      omega
theorem dg_lay (h : Nat → Int) (l g : Nat → Nat) (n r c : Nat) (hc : r + c ≤ 64) : ((hr h (tlD l n)).toList.take (8 + r) ++ p8 g c ++ (hr h (tlD l n)).toList.drop (8 + r + (p8 g c).length)).toArray = hr h (tlD (lay8 l g r c) n) := by
  have hsz := dg_size h l n
  have hl : (hr h (tlD l n)).toList.length = 73 := by rw [Array.length_toList, hsz]
  have hp := p8_len g c
  have g1 : ∀ j, j < 8 → (hr h (tlD l n)).toList[j]? = some (.int .u32 (h j)) := fun j hj => by rw [Array.getElem?_toList]; exact hr_at _ _ _ hj
  have g2 : ∀ j, j < 64 → (hr h (tlD l n)).toList[8 + j]? = some (.int .u8 (l j : Nat)) := fun j hj => by rw [Array.getElem?_toList]; exact dg_by _ _ _ _ hj
  have g3 : (hr h (tlD l n)).toList[72]? = some (.int .u64 (n : Nat)) := by rw [Array.getElem?_toList]; exact dg_n _ _ _
  have gp : ∀ j, j < c → (p8 g c)[j]? = some (.int .u8 (g j : Nat)) := fun j hj => p8_at _ _ _ hj
  generalize (hr h (tlD l n)).toList = X at *
  generalize p8 g c = P at *
  have get := splice_at X P (8 + r) (by omega)
  rw [hp] at get ⊢
  refine dg_ext ?_ (fun j hj => ?_) (fun j hj => ?_) ?_
  · rw [List.size_toArray, List.length_append, List.length_append, List.length_take, hp, List.length_drop, hl]
    omega
  · rw [List.getElem?_toArray, get, if_pos (by omega)]; exact g1 j hj
  · rw [List.getElem?_toArray, get]
    unfold lay8
    by_cases j1 : 8 + j < 8 + r
    · rw [if_pos j1, if_neg (by omega)]; exact g2 j hj
    · rw [if_neg j1]
      by_cases j2 : 8 + j < 8 + r + c
      · rw [if_pos j2, if_pos (by omega), show 8 + j - (8 + r) = j - r by omega]
        exact gp _ (by omega)
      · rw [if_neg j2, if_neg (by omega)]; exact g2 j hj
  · rw [List.getElem?_toArray, get, if_neg (by omega), if_neg (by omega)]; exact g3
theorem sl_last (V r : Nat) (h : r < 64) (w : World) : (Instr.sliceAt 46 (.pointer (some ⟨V, 8, none⟩)) (some (.int .u64 (r : Nat))) none none).run Tryd.prog w = .ok (.slice (some ⟨V, 8 + r, none⟩) (64 - r) (64 - r)) w := by
  have hlen : Tryd.prog.arrayLen 46 = 64 := by kernel_rfl
  have hsz : (sizeOf (Tryd.prog.elem 46)).run Tryd.prog w = .ok 1 w := by kernel_rfl
  rw [run_sliceAt_array_l w 46 ⟨V, 8, none⟩ (by kernel_rfl) .u64 _ (by omega) (by rw [hlen]; omega), hsz, hlen]
  simp only [Result.andThen, slicedAt, Addr.add]
  rw [if_neg (by omega), Int.toNat_natCast]
  simp
theorem rem64 (m : Nat) (hm : m < 1125899906842624) (w : World) : (binOp BinOp.rem 47 (.int .u64 (m : Nat)) (.int .u64 64)).run Tryd.prog w = .ok (.int .u64 (m % 64 : Nat)) w := by
  obtain ⟨q, hq⟩ : ∃ q, m % 64 = q := ⟨_, rfl⟩
  rw [hq]
  have e1 : (m : Int).tmod 64 = (q : Int) := by rw [Int.tmod_eq_emod_of_nonneg (by omega)]; omega
  have e0 : (m : Int) % 64 = (q : Int) := by omega
  have e2 : IntKind.u64.wrap (q : Int) = q := by rw [IntKind.wrap_u64]; omega
  go_simp
theorem load_u64 (g j : Nat) (y : Int) (w : World) (h : w.cell? ⟨g, j, none⟩ = some (.int .u64 y)) : (Instr.loadAt 47 (.pointer (some ⟨g, j, none⟩))).run Tryd.prog w = .ok (.int .u64 y) w := by
  go_simp
theorem info1b : (Tryd.prog.info? 5).map (·.size) = some 1 := by kernel_rfl
/-- Bytes copied into the block that is filled. -/
theorem copy_last {w : World} {V n r c L cap k2 : Nat} {h : Nat → Int} {l g : Nat → Nat} {b o : Nat} (hV : w.heap[V]? = some (.cells (hr h (tlD l n)) 49 (0, 0))) (hg : ∀ j, j < L → w.cell? ⟨b, o + j, none⟩ = some (.int .u8 (g j : Nat))) (hc : c = Nat.min L (64 - r)) (hr' : r < 64) :
    (Builtin.copy_ #[22, 22] 3 #[.slice (some ⟨V, 8 + r, none⟩) (64 - r) k2, .slice (some ⟨b, o, none⟩) L cap]).run Tryd.prog w = .ok (.int .i64 (c : Nat)) (w.setRow V (hr h (tlD (lay8 l g r c) n))) := by
  have hcL : c ≤ L ∧ r + c ≤ 64 := by
    rw [show Nat.min L (64 - r) = min L (64 - r) from rfl] at hc
    omega
  have hx := run_copy_row (P := Tryd.prog) w 22 22 3 5 V (8 + r) (64 - r) k2 ⟨b, o, none⟩ L cap (hr h (tlD l n)) 49 (p8 g c) Tryd.underlying22 info1b hV (by rw [p8_len]; exact hc) (fun j v hv => by
    have hj : j < c := by
      have := (List.getElem?_eq_some_iff.1 hv).1
      rwa [p8_len] at this
    rw [p8_at _ _ _ hj] at hv
    cases hv
    rw [Addr.add_lit]
    exact hg j (by omega)) (by rw [p8_len, dg_size]; omega) (p8_one _ _)
  rw [hx, dg_lay h l g n r c hcL.2, p8_len]
  rfl
/-- The worlds of Write. -/
structure CWr (w : World) (V : Nat) (h : Nat → Int) (l : Nat → Nat) (n : Nat) (wx : World) : Prop where
  bt : Bt V w wx
  row : wx.heap[V]? = some (.cells (hr h (tlD l n)) 49 (0, 0))
section
variable {w wx w' : World} {V n : Nat} {h : Nat → Int} {l : Nat → Nat}
theorem CWr.drew (c : CWr w V h l n wx) : CWr w V h l n wx.drew := ⟨c.bt.drew, c.row⟩
theorem CWr.cn (c : CWr w V h l n wx) : wx.cell? ⟨V, 72, none⟩ = some (.int .u64 (n : Nat)) := (cell_of_row wx _ 72 _ _ _ c.row).trans (dg_n _ _ _)
theorem CWr.setn (c : CWr w V h l n wx) (m : Nat) : CWr w V h l m (wx.setCell ⟨V, 72, none⟩ (.int .u64 (m : Nat))) := ⟨c.bt.set 72 _, (heap_setCell_same _ _ _ _ _ _ c.row).trans (by rw [dg_setn])⟩
theorem CWr.ldb (c : CWr w V h l n wx) : (Instr.loadAt 46 (.pointer (some ⟨V, 8, none⟩))).run Tryd.prog wx = .ok (.agg (ar .u8 64 fun j => (l j : Nat))) wx := by
  simp only [Instr.loadAt, Instr.sureAddr, Sem.run_bind, Sem.run_pure, Result.andThen_ok, run_loadVar_part wx V 8 64 46 .u8 (fun j => ((l j : Nat) : Int)) _ (fun j hj => (cell_of_row wx _ (8 + j) _ _ _ c.row).trans (dg_by _ _ _ _ hj)) Tryd.underlying46 rfl info64b]
end
/-- What a digest knows behind m bytes. -/
def DgAt (w : World) (V : Nat) (f : Nat → Nat) (m : Nat) (wx : World) : Prop := ∃ l : Nat → Nat, (∀ j, j < m % 64 → l j = f (64 * (m / 64) + j)) ∧ (∀ j, l j < 256) ∧ CWr w V (hB f (m / 64)) l m wx
theorem lay_lt {l : Nat → Nat} {g : Nat → Nat} (hl : ∀ j, l j < 256) (hg : ∀ j, g j < 256) (r c j : Nat) : lay8 l g r c j < 256 := by
  unfold lay8
  split
  · exact hg _
  · exact hl _
theorem lay_eq {l f : Nat → Nat} {M r q c : Nat} (hr : M % 64 = r) (hq : M / 64 = q) (h : ∀ j, j < r → l j = f (64 * q + j)) (j : Nat) (hj : j < r + c) : lay8 l (fun j => f (M + j)) r c j = f (64 * q + j) := by
  unfold lay8
  split
  · rename_i hh
    show f (M + (j - r)) = _
    congr 1
    omega
  · exact h j (by omega)
theorem dg_part {w wx : World} {V M r q c M2 : Nat} {f l l2 : Nat → Nat} (hr : M % 64 = r) (hq : M / 64 = q) (h : ∀ j, j < r → l j = f (64 * q + j)) (hl : ∀ j, l j < 256) (hf : ∀ j, f j < 256) (hrc : r + c ≤ 64) (hc0 : 0 < c) (e2 : M + c = M2) (hl2 : lay8 l (fun j => f (M + j)) r c = l2) (hz : M2 % 64 ≠ 0) (hx : CWr w V (hB f q) l2 M2 wx) : DgAt w V f M2 wx := by
  have e : M2 / 64 = q := by omega
  refine ⟨l2, fun j hj => ?_, fun j => ?_, by rw [e]; exact hx⟩
  · rw [← hl2, e]
    exact lay_eq hr hq h j (by omega)
  · rw [← hl2]
    exact lay_lt hl (fun j => hf _) r c j
theorem dg_full {w wx : World} {V M r q c M2 : Nat} {f l l2 : Nat → Nat} (hr' : M % 64 = r) (hq : M / 64 = q) (h : ∀ j, j < r → l j = f (64 * q + j)) (hl : ∀ j, l j < 256) (hf : ∀ j, f j < 256) (hrc : r + c ≤ 64) (hc0 : 0 < c) (e2 : M + c = M2) (hl2 : lay8 l (fun j => f (M + j)) r c = l2) (hz : M2 % 64 = 0) (hb : Bt V w wx) (hx : wx.heap[V]? = some (.cells (hr (hmx (hB f q) l2) (tlD l2 M2)) 49 (0, 0))) : DgAt w V f M2 wx := by
  have e : M2 / 64 = q + 1 := by omega
  refine ⟨l2, fun j hj => by omega, fun j => ?_, hb, ?_⟩
  · rw [← hl2]
    exact lay_lt hl (fun j => hf _) r c j
  · rw [e, hB, ← hmx_congr (hB f q) (f := l2) (g := fun j => f (64 * q + j)) (fun j hj => by rw [← hl2]; exact lay_eq hr' hq h j (by omega))]
    exact hx
set_option maxRecDepth 100000 in
set_option maxHeartbeats 8000000 in
-- WHAT Write COMES TO.
theorem hwrite {V m n : Nat} {f : Nat → Nat} {v : Value} (hm : m + n < 1125899906842624) (hf : ∀ j, f j < 256) (w : World) (hT : STab w) (hA : 0 ≠ V) (hP : ArgB w v n (fun j => f (m + j))) (hsep : ∀ a cap, v = .slice a n cap → 0 < n → ∀ b o, a = some ⟨b, o, none⟩ → b ≠ V) (hD : DgAt w V f m w) :
    Calls Tryd.prog 9 #[.pointer (some ⟨V, 0, none⟩), v] w fun e w' => e = .returned (.tuple #[]) ∧ DgAt w V f (m + n) w' := by
  have HT := Lib.hid (And.intro hT (And.intro hA hf))
  have HS : Hid (∃ a cap, v = .slice a (n - 0) cap ∧ n - 0 ≤ cap ∧ (a = none → cap = 0) ∧ (n - 0 = 0 ∨ ∃ b o, a = some ⟨b, o, none⟩ ∧ b < w.heap.size ∧ b ≠ V ∧ ∀ j, j < n - 0 → w.cell? ⟨b, o + j, none⟩ = some (.int .u8 (f (m + 0 + j) : Nat)))) := Lib.hid (by
    obtain ⟨a, cap, rfl, h1, h2, h3⟩ := hP
    refine ⟨a, cap, rfl, h1, h2, ?_⟩
    rcases h3 with h3 | ⟨b, o, h3, h4, h5⟩
    · exact .inl (by omega)
    · rcases Nat.eq_zero_or_pos n with h0 | h0
      · exact .inl (by omega)
      · exact .inr ⟨b, o, h3, h4, hsep a cap rfl h0 b o h3, fun j hj => h5 j hj⟩)
  have H0 := Lib.hid hD
  have HM := Lib.hid hm
  clear hT hA hP hsep hD hf hm
  go_enter Tryd.func9, Tryd.ntmps9
  go_wp2_with fail
  go_loopw [1] (fun u wr => ∃ k : Nat, k ≤ n ∧ Hid (∃ a cap, u = .slice a (n - k) cap ∧ n - k ≤ cap ∧ (a = none → cap = 0) ∧ (n - k = 0 ∨ ∃ b o, a = some ⟨b, o, none⟩ ∧ b < w.heap.size ∧ b ≠ V ∧ ∀ j, j < n - k → w.cell? ⟨b, o + j, none⟩ = some (.int .u8 (f (m + k + j) : Nat)))) ∧ Hid (DgAt w V f (m + k) wr)) (fun u _ => match u with | .slice _ c _ => c | _ => 0)
  case atStart => exact ⟨0, by omega, HS, H0⟩
  case round =>
    obtain ⟨k, hk, HU, H⟩ := hrel
    clear HS H0
    obtain ⟨a, cap, rfl, hc1, hc2, hc3⟩ := HU.out
    obtain ⟨l, hl1, hl2, hrow⟩ := H.out
    clear HU H
    obtain ⟨L, hL⟩ : ∃ L, n - k = L := ⟨_, rfl⟩
    obtain ⟨M, hM⟩ : ∃ M, m + k = M := ⟨_, rfl⟩
    rw [hL] at hc1 hc3 ⊢
    rw [hM] at hl1 hrow hc3
    have hL0 : (0 : Int) ≤ L := by omega
    by_cases hlt : 0 < L
    · have hlt' : (0 : Int) < L := by omega
      obtain ⟨b, o, rfl, hbl, hbV, hcell⟩ : ∃ b o, a = some ⟨b, o, none⟩ ∧ b < w.heap.size ∧ b ≠ V ∧ ∀ j, j < L → w.cell? ⟨b, o + j, none⟩ = some (.int .u8 (f (M + j) : Nat)) := by
        rcases hc3 with h | h
        · omega
        · exact h
      clear hc3
      have hMb : M < 1125899906842624 := by have := HM.out; omega
      have HML := Lib.hid (show M + L < 1125899906842624 by have := HM.out; omega)
      obtain ⟨r, hr'⟩ : ∃ r, M % 64 = r := ⟨_, rfl⟩
      have hr64 : r < 64 := by omega
      obtain ⟨c, hc⟩ : ∃ c, Nat.min L (64 - r) = c := ⟨_, rfl⟩
      have hcm : c = min L (64 - r) := hc.symm
      have hcL : c ≤ L := by omega
      have hcr : r + c ≤ 64 := by omega
      have hc0 : 0 < c := by omega
      have HRM := Lib.hid (show ∀ w, (binOp BinOp.rem 47 (.int .u64 (M : Nat)) (.int .u64 64)).run Tryd.prog w = .ok (.int .u64 (r : Nat)) w from fun w => by rw [← hr']; exact rem64 M hMb w)
      have HR := Lib.hid (show r < 64 from hr64)
      obtain ⟨q, hq⟩ : ∃ q, M / 64 = q := ⟨_, rfl⟩
      rw [hr', hq] at hl1
      rw [hq] at hrow
      have H1 := Lib.hid hrow
      have HC := Lib.hid (fun wx (cx : CWr w V (hB f q) l M wx) => copy_last (c := c) (cap := cap) (k2 := 64 - r) (L := L) (g := fun j => f (M + j)) (b := b) (o := o) cx.row (fun j hj => (cx.bt.cell (p := ⟨b, o + j, none⟩) hbV hbl).trans (hcell j hj)) hc.symm hr64)
      obtain ⟨a', hsl, -⟩ := arg_from (a := some ⟨b, o, none⟩) (n := L) (cap := cap) (m := c) hcL hc1
      have hE : a' = some ⟨b, o + c, none⟩ ∨ cap - c = 0 := by
        by_cases e : cap - c = 0
        · exact .inr e
        · left
          have h1 := hsl w
          have h2 : cap ≠ c := by omega
          have hsz : (sizeOf (Tryd.prog.elem 22)).run Tryd.prog w = .ok 1 w := by kernel_rfl
          rw [run_sliceAt_slice (P := Tryd.prog) (w := w) 22 _ _ _ _ (by kernel_rfl), run_slice_l (P := Tryd.prog) w 22 (some ⟨b, o, none⟩) L cap (by kernel_rfl) .i64 c (by omega) (by omega), hsz] at h1
          simp only [Result.andThen, sliced, Int.toNat_natCast, if_neg h2] at h1
          injection h1 with h1
          injection h1 with h1
          rw [← h1]
          simp [Addr.add]
          omega
      have HSL := Lib.hid hsl
      have HQ := Lib.hid (And.intro hl1 (And.intro hl2 (And.intro hE (And.intro hc1 (And.intro hcell (And.intro hbl (And.intro hbV (And.intro hc2 (And.intro hL (And.intro hM (And.intro hr' (And.intro hq (And.intro hcr hcL)))))))))))))
      have hcI : (c : Int) ≤ L := by omega
      have hc0' : (0 : Int) < c := by omega
      clear hrow hcm hc hl1 hl2 hsl hE hc1 hc2 hcell hbl hbV hr' hq hL hM hcL hcr
      go_wp2_with fail
      refine region_quiet_tail 10 (CWr w V (hB f q) l M) (by kernel_rfl) (by kernel_rfl) H1.out.drew ?_
      simp only [List.take_succ_cons, List.take_zero, List.drop_succ_cons, List.drop_zero]
      with_reducible refine q_val (.pointer (some ⟨V, 0, none⟩)) (by kernel_rfl) (fun _ _ => by kernel_rfl) ?_
      with_reducible refine q_val (.pointer (some ⟨V, 0, none⟩)) (by kernel_rfl) (fun _ _ => by kernel_rfl) ?_
      with_reducible refine q_val (.pointer (some ⟨V, 8, none⟩)) (by kernel_rfl) (fun _ _ => by kernel_rfl) ?_
      with_reducible refine q_val (.pointer (some ⟨V, 0, none⟩)) (by kernel_rfl) (fun _ _ => by kernel_rfl) ?_
      with_reducible refine q_val (.pointer (some ⟨V, 0, none⟩)) (by kernel_rfl) (fun _ _ => by kernel_rfl) ?_
      with_reducible refine q_val (.pointer (some ⟨V, 72, none⟩)) (by kernel_rfl) (fun _ _ => by kernel_rfl) ?_
      with_reducible refine q_load 47 (.tmp 13) (.pointer (some ⟨V, 72, none⟩)) (.int .u64 (M : Nat)) rfl (by kernel_rfl) (by kernel_rfl) (fun _ cx => load_u64 _ _ _ _ cx.cn) ?_
      with_reducible refine q_v (binOp BinOp.rem 47 (.int .u64 (M : Nat)) (.int .u64 64)) (.int .u64 (r : Nat)) (by kernel_rfl) (by kernel_rfl) (fun wz _ => HRM.out wz) ?_
      with_reducible refine q_v (Instr.sliceAt 46 (.pointer (some ⟨V, 8, none⟩)) (some (.int .u64 (r : Nat))) none none) (.slice (some ⟨V, 8 + r, none⟩) (64 - r) (64 - r)) (by kernel_rfl) (by kernel_rfl) (fun wz _ => sl_last V r HR.out wz) ?_
      with_reducible refine q_val (.slice (some ⟨b, o, none⟩) L cap) (by kernel_rfl) (fun _ _ => by kernel_rfl) ?_
      with_reducible refine wpQuiet_nil ?_
      intro w1 hCx
      simp only [Act.put, List.setIfInBounds_toArray, List.set_cons_succ, List.set_cons_zero]
      have hrun := HC.out w1 hCx
      have H2 := Lib.hid (show CWr w V (hB f q) (lay8 l (fun j => f (M + j)) r c) M (w1.setRow V (hr (hB f q) (tlD (lay8 l (fun j => f (M + j)) r c) M))) from ⟨hCx.bt.row _, setRow_heap _ _ _ _ _ _ hCx.row⟩)
      obtain ⟨l2, hl2⟩ : ∃ l2, lay8 l (fun j => f (M + j)) r c = l2 := ⟨_, rfl⟩
      rw [hl2] at H2 hrun
      obtain ⟨w2, hw2⟩ : ∃ z, w1.setRow V (hr (hB f q) (tlD l2 M)) = z := ⟨_, rfl⟩
      rw [hw2] at H2 hrun
      have HL2 := Lib.hid hl2
      have c72 := H2.out.cn
      have f72 := frozen_of_row w2 _ 72 _ _ H2.out.row
      have hwc : IntKind.u64.wrap (c : Int) = (c : Int) := by rw [IntKind.wrap_u64]; have := HML.out; omega
      obtain ⟨M2, hM2⟩ : ∃ M2, M + c = M2 := ⟨_, rfl⟩
      have hM2i : (M : Int) + (c : Int) = (M2 : Int) := by omega
      have HM2 := Lib.hid (show M2 < 1125899906842624 by have := HML.out; omega)
      have hwM : IntKind.u64.wrap (M2 : Int) = (M2 : Int) := by rw [IntKind.wrap_u64]; have := HM2.out; omega
      have H3 := Lib.hid (H2.out.setn M2)
      have c73 := H3.out.cn
      have HMM := Lib.hid hM2
      clear hCx H1 HC hl2 hw2 hM2
      have HRUN := Lib.hid hrun
      clear hrun
      refine wpList_sem rfl (Builtin.copy_ #[22, 22] 3 #[.slice (some ⟨V, 8 + r, none⟩) (64 - r) (64 - r), .slice (some ⟨b, o, none⟩) L cap]) (.int .i64 (c : Nat)) (by kernel_rfl) HRUN.out ?_
      simp only [Act.put, List.setIfInBounds_toArray, List.set_cons_succ, List.set_cons_zero]
      go_upto_region 3 with fail
      refine region_list ?_
      refine wpList_val (w' := w2.setCell ⟨V, 72, none⟩ (.int .u64 (M2 : Nat))) rfl (.slice (some ⟨b, o, none⟩) L cap) (by kernel_rfl) ?_
      refine wpList_val (w' := w2.setCell ⟨V, 72, none⟩ (.int .u64 (M2 : Nat))) rfl (.int .i64 (c : Nat)) (by kernel_rfl) ?_
      refine wpList_sem rfl (Instr.sliceAt 22 (.slice (some ⟨b, o, none⟩) L cap) (some (.int .i64 (c : Nat))) none none) (.slice a' (L - c) (cap - c)) (by kernel_rfl) (HSL.out _) ?_
      simp only [Act.put, List.setIfInBounds_toArray, List.set_cons_succ, List.set_cons_zero]
      obtain ⟨w3, hw3⟩ : ∃ z, w2.setCell ⟨V, 72, none⟩ (.int .u64 (M2 : Nat)) = z := ⟨_, rfl⟩
      rw [hw3] at H3 c73 ⊢
      clear hw3 HRUN H2 c72 f72
      have HN : Hid (∃ a cap', Value.slice a' (L - c) (cap - c) = .slice a (n - (k + c)) cap' ∧ n - (k + c) ≤ cap' ∧ (a = none → cap' = 0) ∧ (n - (k + c) = 0 ∨ ∃ b o, a = some ⟨b, o, none⟩ ∧ b < w.heap.size ∧ b ≠ V ∧ ∀ j, j < n - (k + c) → w.cell? ⟨b, o + j, none⟩ = some (.int .u8 (f (m + (k + c) + j) : Nat)))) := Lib.hid (by
        obtain ⟨h1, h2, hE, hc1, hcell, hbl, hbV, hc2, hL, hM, hr', hq, hcr, hcL⟩ := HQ.out
        rw [show n - (k + c) = L - c by omega]
        refine ⟨a', cap - c, rfl, by omega, ?_, ?_⟩
        · intro e
          rcases hE with hE | hE
          · rw [hE] at e
            cases e
          · exact hE
        · rcases hE with hE | hE
          · refine .inr ⟨b, o + c, hE, hbl, hbV, fun j hj => ?_⟩
            have h := hcell (c + j) (by omega)
            rw [← hM] at h
            rw [show o + c + j = o + (c + j) by omega, show m + (k + c) + j = m + k + (c + j) by omega]
            exact h
          · exact .inl (by omega))
      have HK := Lib.hid (show k + c ≤ n ∧ m + (k + c) = M2 ∧ L - c < L from by
        obtain ⟨h1, h2, hE, hc1, hcell, hbl, hbV, hc2, hL, hM, hr', hq, hcr, hcL⟩ := HQ.out
        have := HMM.out
        clear hE h1 h2 hcell hc2
        omega)
      by_cases hz : M2 % 64 = 0
      · have HR2 := Lib.hid (show ∀ w, (binOp BinOp.rem 47 (.int .u64 (M2 : Nat)) (.int .u64 64)).run Tryd.prog w = .ok (.int .u64 0) w from fun w => by have h := rem64 M2 HM2.out w; rw [hz] at h; exact h)
        have HZ := Lib.hid hz
        have HR3 := HR2.out w3
        go_wp2_with fail
        refine region_quiet_tail 7 (CWr w V (hB f q) l2 M2) (by kernel_rfl) (by kernel_rfl) H3.out.drew ?_
        simp only [List.take_succ_cons, List.take_zero, List.drop_succ_cons, List.drop_zero]
        with_reducible refine q_val (.pointer (some ⟨V, 0, none⟩)) (by kernel_rfl) (fun _ _ => by kernel_rfl) ?_
        with_reducible refine q_val (.pointer (some ⟨V, 0, none⟩)) (by kernel_rfl) (fun _ _ => by kernel_rfl) ?_
        with_reducible refine q_val (.pointer (some ⟨V, 0, none⟩)) (by kernel_rfl) (fun _ _ => by kernel_rfl) ?_
        with_reducible refine q_val (.pointer (some ⟨V, 0, none⟩)) (by kernel_rfl) (fun _ _ => by kernel_rfl) ?_
        with_reducible refine q_val (.pointer (some ⟨V, 0, none⟩)) (by kernel_rfl) (fun _ _ => by kernel_rfl) ?_
        with_reducible refine q_val (.pointer (some ⟨V, 8, none⟩)) (by kernel_rfl) (fun _ _ => by kernel_rfl) ?_
        with_reducible refine q_load 46 (.tmp 42) (.pointer (some ⟨V, 8, none⟩)) (.agg (ar .u8 64 fun j => (l2 j : Nat))) rfl (by kernel_rfl) (by kernel_rfl) (fun _ cx => cx.ldb) ?_
        with_reducible refine wpQuiet_nil ?_
        intro w4 hCx
        simp only [Act.put, List.setIfInBounds_toArray, List.set_cons_succ, List.set_cons_zero]
        have CM := Lib.hid (hmix (hB f q) l2 (by have h := HL2.out; intro j; rw [← h]; exact lay_lt HQ.out.2.1 (fun j => HT.out.2.2 _) r c j) w4 (HT.out.1.bt HT.out.2.1 hCx.bt) HT.out.2.1 hCx.row)
        have HB4 := Lib.hid hCx.bt
        clear hCx H3
        go_wp2_with fail
        refine CM.out.mono ?_
        rintro e w5 ⟨rfl, hb, hrow⟩
        have H5 := Lib.hid (dg_full HQ.out.2.2.2.2.2.2.2.2.2.2.1 HQ.out.2.2.2.2.2.2.2.2.2.2.2.1 HQ.out.1 HQ.out.2.1 HT.out.2.2 HQ.out.2.2.2.2.2.2.2.2.2.2.2.2.1 hc0 HMM.out HL2.out HZ.out (HB4.out.trans hb) hrow)
        clear hb hrow CM HB4
        go_wp2_with fail
        go_roundw
        case rel => exact ⟨k + c, HK.out.1, HN, by rw [HK.out.2.1]; exact H5⟩
        case measure => exact HK.out.2.2
      · have HR3 := rem64 M2 HM2.out w3
        have HZ := Lib.hid hz
        have hz' : (M2 : Int) % 64 ≠ 0 := by omega
        clear hz
        have H5 := Lib.hid (dg_part HQ.out.2.2.2.2.2.2.2.2.2.2.1 HQ.out.2.2.2.2.2.2.2.2.2.2.2.1 HQ.out.1 HQ.out.2.1 HT.out.2.2 HQ.out.2.2.2.2.2.2.2.2.2.2.2.2.1 hc0 HMM.out HL2.out HZ.out H3.out)
        clear H3
        go_wp2_with fail
        go_roundw
        case rel => exact ⟨k + c, HK.out.1, HN, by rw [HK.out.2.1]; exact H5⟩
        case measure => exact HK.out.2.2
    · obtain rfl : k = n := by omega
      have hlt' : ¬ (0 : Int) < L := by omega
      go_wp2_with fail
      go_end0
      exact ⟨rfl, l, hl1, hl2, hrow⟩
end Go.Proofs.YtkecehcnoihiiaaDoor
namespace Go.Proofs.YtkecehcnoihiiaaDoor
open Go.RowKit

/-- The bytes while they are made. -/
def sbD (h : Nat → Int) (i j : Nat) : Int := if j < i then h j else 0
theorem sbD_next (h : Nat → Int) (i : Nat) : updI (sbD h i) i (h i) = sbD h (i + 1) := by
  funext j
  unfold updI sbD
  by_cases e : j = i
  · subst e; rw [if_pos rfl, if_pos (by omega)]
  · rw [if_neg e]
    by_cases e2 : j < i
    · rw [if_pos e2, if_pos (by omega)]
    · rw [if_neg e2, if_neg (by omega)]
theorem sbD_32 (h : Nat → Int) : ar .u8 32 (sbD h 32) = ar .u8 32 h := ar_congr fun j hj => by unfold sbD; rw [if_pos hj]
theorem sbD_0 (h : Nat → Int) : ar .u8 32 (sbD h 0) = #[.int .u8 0, .int .u8 0, .int .u8 0, .int .u8 0, .int .u8 0, .int .u8 0, .int .u8 0, .int .u8 0, .int .u8 0, .int .u8 0, .int .u8 0, .int .u8 0, .int .u8 0, .int .u8 0, .int .u8 0, .int .u8 0, .int .u8 0, .int .u8 0, .int .u8 0, .int .u8 0, .int .u8 0, .int .u8 0, .int .u8 0, .int .u8 0, .int .u8 0, .int .u8 0, .int .u8 0, .int .u8 0, .int .u8 0, .int .u8 0, .int .u8 0, .int .u8 0] := by
  rw [ar_congr (fun j _ => show sbD h 0 j = (fun _ => (0 : Int)) j by unfold sbD; rw [if_neg (by omega)])]
  kernel_rfl

/-- The bytes of eight numbers, each number's highest first. -/
def sby (h : Nat → Int) (i : Nat) : Int := h (i / 4) / 2 ^ (24 - i % 4 * 8) % 256
theorem info32s : (Tryd.prog.info? 25).map (·.size) = some 32 := by kernel_rfl
/-- The worlds of bytes. -/
structure CSb (w : World) (h v : Nat → Int) (wx : World) : Prop where
  old : Below w.heap.size w wx
  r0 : wx.heap[w.heap.size]? = some (.cells (ar .u32 8 h) 43 (0, 0))
  r1 : wx.heap[w.heap.size + 1]? = some (.cells #[.int .u8 0, .int .u8 0, .int .u8 0, .int .u8 0, .int .u8 0, .int .u8 0, .int .u8 0, .int .u8 0, .int .u8 0, .int .u8 0, .int .u8 0, .int .u8 0, .int .u8 0, .int .u8 0, .int .u8 0, .int .u8 0, .int .u8 0, .int .u8 0, .int .u8 0, .int .u8 0, .int .u8 0, .int .u8 0, .int .u8 0, .int .u8 0, .int .u8 0, .int .u8 0, .int .u8 0, .int .u8 0, .int .u8 0, .int .u8 0, .int .u8 0, .int .u8 0] 25 (0, 0))
  r2 : wx.heap[w.heap.size + 1 + 1]? = some (.cells (ar .u8 32 v) 25 (0, 0))
theorem CSb.set {w wx : World} {h v : Nat → Int} (c : CSb w h v wx) (j : Nat) (hj : j < 32) (y : Int) : CSb w h (updI v j y) (wx.setCell ⟨w.heap.size + 1 + 1, j, none⟩ (.int .u8 y)) :=
  ⟨c.old.setCell (by show w.heap.size ≤ w.heap.size + 1 + 1; omega) _, (heap_setCell_other _ _ _ _ (by show w.heap.size ≠ w.heap.size + 1 + 1; omega)).trans c.r0, (heap_setCell_other _ _ _ _ (by show w.heap.size + 1 ≠ w.heap.size + 1 + 1; omega)).trans c.r1, (heap_setCell_same _ _ _ _ _ _ c.r2).trans (by rw [ar_set _ _ _ _ _ hj])⟩
set_option maxRecDepth 100000 in
set_option maxHeartbeats 4000000 in
-- WHAT bytes COMES TO.
theorem hbytes (h : Nat → Int) (w : World) : Calls Tryd.prog 27 #[.agg (ar .u32 8 h)] w fun e w' => e = .returned (.agg (ar .u8 32 (sby h))) ∧ Below w.heap.size w w' := by
  have HI : ∀ f, Hid ((Tryd.prog.info? 25).map (·.size) = some (ar .u8 32 f).size) := fun f => Lib.hid (by rw [ar_size]; exact info32s)
  have hh := heap3 w (.cells (ar .u32 8 h) 43) (.cells #[.int .u8 0, .int .u8 0, .int .u8 0, .int .u8 0, .int .u8 0, .int .u8 0, .int .u8 0, .int .u8 0, .int .u8 0, .int .u8 0, .int .u8 0, .int .u8 0, .int .u8 0, .int .u8 0, .int .u8 0, .int .u8 0, .int .u8 0, .int .u8 0, .int .u8 0, .int .u8 0, .int .u8 0, .int .u8 0, .int .u8 0, .int .u8 0, .int .u8 0, .int .u8 0, .int .u8 0, .int .u8 0, .int .u8 0, .int .u8 0, .int .u8 0, .int .u8 0] 25) (.cells #[.int .u8 0, .int .u8 0, .int .u8 0, .int .u8 0, .int .u8 0, .int .u8 0, .int .u8 0, .int .u8 0, .int .u8 0, .int .u8 0, .int .u8 0, .int .u8 0, .int .u8 0, .int .u8 0, .int .u8 0, .int .u8 0, .int .u8 0, .int .u8 0, .int .u8 0, .int .u8 0, .int .u8 0, .int .u8 0, .int .u8 0, .int .u8 0, .int .u8 0, .int .u8 0, .int .u8 0, .int .u8 0, .int .u8 0, .int .u8 0, .int .u8 0, .int .u8 0] 25)
  have H0 := Lib.hid (show CSb w h (sbD (sby h) 0) (((w.alloc (.cells (ar .u32 8 h) 43)).alloc (.cells #[.int .u8 0, .int .u8 0, .int .u8 0, .int .u8 0, .int .u8 0, .int .u8 0, .int .u8 0, .int .u8 0, .int .u8 0, .int .u8 0, .int .u8 0, .int .u8 0, .int .u8 0, .int .u8 0, .int .u8 0, .int .u8 0, .int .u8 0, .int .u8 0, .int .u8 0, .int .u8 0, .int .u8 0, .int .u8 0, .int .u8 0, .int .u8 0, .int .u8 0, .int .u8 0, .int .u8 0, .int .u8 0, .int .u8 0, .int .u8 0, .int .u8 0, .int .u8 0] 25)).alloc (.cells #[.int .u8 0, .int .u8 0, .int .u8 0, .int .u8 0, .int .u8 0, .int .u8 0, .int .u8 0, .int .u8 0, .int .u8 0, .int .u8 0, .int .u8 0, .int .u8 0, .int .u8 0, .int .u8 0, .int .u8 0, .int .u8 0, .int .u8 0, .int .u8 0, .int .u8 0, .int .u8 0, .int .u8 0, .int .u8 0, .int .u8 0, .int .u8 0, .int .u8 0, .int .u8 0, .int .u8 0, .int .u8 0, .int .u8 0, .int .u8 0, .int .u8 0, .int .u8 0] 25)) from ⟨by go_grown, hh.1, hh.2.1, by rw [sbD_0]; exact hh.2.2⟩)
  clear hh
  go_enter Tryd.func27, Tryd.ntmps27
  go_wp2_with fail
  go_loopw [5] (fun i wr => ∃ k : Nat, k ≤ 32 ∧ i = .int .i64 k ∧ Hid (CSb w h (sbD (sby h) k) wr)) (fun i _ => 32 - (intOf i).toNat)
  case atStart => exact ⟨0, by omega, rfl, H0⟩
  case round =>
    obtain ⟨k, hk, rfl, H⟩ := hrel
    clear H0
    have hk0 : (0 : Int) ≤ k := by omega
    by_cases hlt : k < 32
    · have hlt' : (k : Int) < 32 := by omega
      have HK := Lib.hid hlt
      have HN := Lib.hid (sbD_next (sby h) k)
      have hy : sby h k = h (k / 4) / 2 ^ (24 - k % 4 * 8) % 256 := rfl
      obtain ⟨y, hy'⟩ : ∃ y, sby h k = y := ⟨_, rfl⟩
      rw [hy'] at HN hy
      obtain ⟨p, hp⟩ : ∃ p, k / 4 = p := ⟨_, rfl⟩
      obtain ⟨s, hs⟩ : ∃ s, 24 - k % 4 * 8 = s := ⟨_, rfl⟩
      obtain ⟨z, hz⟩ : ∃ z, h p = z := ⟨_, rfl⟩
      rw [hp, hs, hz] at hy
      have c8 := (cell_of_row wr _ p _ _ _ H.out.r0).trans (ar_at _ _ _ _ (show p < 8 by omega))
      rw [hz] at c8
      have e1 : (k : Int) / 4 = (p : Int) := by omega
      have e1' : (k : Int).tdiv 4 = (p : Int) := by rw [Int.tdiv_eq_ediv_of_nonneg (by omega)]; omega
      obtain ⟨r, hr⟩ : ∃ r, k % 4 = r := ⟨_, rfl⟩
      have e2 : (k : Int) % 4 = (r : Int) := by omega
      have e2' : (k : Int).tmod 4 = (r : Int) := by rw [Int.tmod_eq_emod_of_nonneg (by omega)]; omega
      have w1 : IntKind.i64.wrap (p : Int) = (p : Int) := by rw [IntKind.wrap_i64]; omega
      have w2 : IntKind.i64.wrap (r : Int) = (r : Int) := by rw [IntKind.wrap_i64]; omega
      obtain ⟨r8, hr8⟩ : ∃ r8, r * 8 = r8 := ⟨_, rfl⟩
      have e3 : (r : Int) * 8 = (r8 : Int) := by omega
      have w3 : IntKind.i64.wrap (r8 : Int) = (r8 : Int) := by rw [IntKind.wrap_i64]; omega
      have e4 : (24 : Int) - (r8 : Int) = (s : Int) := by omega
      have w4 : IntKind.i64.wrap (s : Int) = (s : Int) := by rw [IntKind.wrap_i64]; omega
      have s0 : (0 : Int) ≤ s := by omega
      have s1 : (s : Int) < 32 := by omega
      have p0 : (0 : Int) ≤ p := by omega
      have p1 : (p : Int) < 8 := by omega
      have e5 : IntKind.u8.wrap (z / 2 ^ s) = y := by rw [IntKind.wrap_u8, hy]
      have e6 : z / 2 ^ s % 256 = y := hy.symm
      have co := (cell_of_row wr _ k _ _ _ H.out.r2).trans (ar_at _ _ _ _ hlt)
      have fo := frozen_of_row _ _ k _ _ H.out.r2
      have H5 := H.out.set k HK.out y
      rw [HN.out] at H5
      have H6 := Lib.hid H5
      clear H5 hy hy' hp hs hz hr hr8 H HN
      go_wp2_with fail
      go_roundw
      case rel => exact ⟨k + 1, by omega, by go_num, H6⟩
      case measure => simp [intOf]; omega
    · obtain rfl : k = 32 := by omega
      have hr := H.out.r2
      rw [sbD_32] at hr
      have HB := Lib.hid (And.intro H.out.old (And.intro hr H.out.r1))
      clear hr H
      obtain ⟨y, hy⟩ : ∃ y, sby h = y := ⟨_, rfl⟩
      rw [hy] at HB
      have HE := Lib.hid hy
      clear hy
      go_wp2_with (first | (refine wpList_load_row rfl 25 _ rfl (w.heap.size + 1 + 1) rfl 25 _ (0, 0) _ HB.out.2.1 Tryd.underlying25 rfl (HI y).out ?_) | (refine wpList_store_row rfl 25 _ _ rfl (w.heap.size + 1) (ar .u8 32 y) rfl rfl 25 _ HB.out.2.2 (HI y).out (by rw [ar_size]; rfl) (ar_one _ _ _) ?_))
      refine bodyPost_ret (v := .agg (ar .u8 32 y)) (results_cell_row (p := 2) rfl _ _ (w.heap.size + 1) 25 _ (0, 0) _ rfl (setRow_heap _ _ _ _ _ _ HB.out.2.2) Tryd.underlying25 rfl (HI y).out) rfl ⟨by rw [HE.out], below_setRow HB.out.1 (by omega) _⟩
end Go.Proofs.YtkecehcnoihiiaaDoor
namespace Go.Proofs.YtkecehcnoihiiaaDoor
open Go.RowKit

theorem wpList_load_part {P : Program} {ops : Array Oper} {rest : List Oper} {o : Oper} {a : Act} {w : World} {Q : Exit → Act → World → Prop} (hgd : o.guard = none) (ty : TypeId) (x : Operand) (ho : o.op = .load ty x)
    (g off n : Nat) (k : IntKind) (f : Nat → Int) (hx : a.eval x = .pointer (some ⟨g, off, none⟩)) (d : TypeDesc) (hc : ∀ j, j < n → w.cell? ⟨g, off + j, none⟩ = some (.int k (f j)))
    (hu : P.underlying ty = some d) (hd : (match d with | .struct _ | .array _ _ => true | _ => false) = true) (hi : (P.info? ty).map (·.size) = some n)
    (h : wpList P ops Q rest (a.put o.dst (.agg (ar k n f))) w) : wpList P ops Q (o :: rest) a w :=
  wpList_plain hgd fun _ hK => by
    unfold Oper.wp execOp
    simp only [ho, hx, Instr.loadAt, Instr.sureAddr, Sem.run_bind, Sem.run_pure, Result.andThen_ok, run_loadVar_part w g off n ty k f d hc hu hd hi]
    exact hK _ _ h
/-- How many bytes stand ahead of the size. -/
def aheadS (m : Nat) : Nat := 64 - (m + 8) % 64
/-- How many bytes there are with what ends them. -/
def sT (m : Nat) : Nat := m + (aheadS m + 8)
/-- What ends m bytes. -/
def sE (m j : Nat) : Nat := if j = 0 then 128 else if j < aheadS m then 0 else 8 * m / 2 ^ (56 - 8 * (j - aheadS m)) % 256
/-- The bytes with what ends them. -/
def spad (f : Nat → Nat) (m j : Nat) : Nat := if j < m then f j else sE m (j - m)
theorem sE_lt (m j : Nat) : sE m j < 256 := by
  unfold sE
  split
  · decide
  · split
    · decide
    · exact Nat.mod_lt _ (by decide)
theorem spad_lt {f : Nat → Nat} (hf : ∀ j, f j < 256) (m j : Nat) : spad f m j < 256 := by
  unfold spad
  split
  · exact hf j
  · exact sE_lt _ _
/-- The hash of m bytes. -/
def shaH (f : Nat → Nat) (m : Nat) : Nat → Int := sby (hB (spad f m) (sT m / 64))
/-- The end while it is made. -/
def eD (m k j : Nat) : Int := if j = 0 then 128 else if aheadS m ≤ j ∧ j < aheadS m + k then ((8 * m / 2 ^ (56 - 8 * (j - aheadS m)) % 256 : Nat) : Int) else 0
theorem eD_next (m k : Nat) (hk : k < 8) : updI (eD m k) (aheadS m + k) ((8 * m / 2 ^ (56 - 8 * k) % 256 : Nat) : Int) = eD m (k + 1) := by
  have ha : 1 ≤ aheadS m := by unfold aheadS; omega
  funext j
  unfold updI eD
  generalize aheadS m = a at *
  by_cases e : j = a + k
  · subst e
    rw [if_pos rfl, if_neg (by omega), if_pos (by omega), show a + k - a = k by omega]
  · rw [if_neg e]
    by_cases e0 : j = 0
    · rw [if_pos e0, if_pos e0]
    · rw [if_neg e0, if_neg e0]
      by_cases e1 : a ≤ j ∧ j < a + k
      · rw [if_pos e1, if_pos (by omega)]
      · rw [if_neg e1, if_neg (by omega)]
theorem e72 : ar .u8 72 (fun j => if j = 0 then 128 else 0) = #[.int .u8 128, .int .u8 0, .int .u8 0, .int .u8 0, .int .u8 0, .int .u8 0, .int .u8 0, .int .u8 0, .int .u8 0, .int .u8 0, .int .u8 0, .int .u8 0, .int .u8 0, .int .u8 0, .int .u8 0, .int .u8 0, .int .u8 0, .int .u8 0, .int .u8 0, .int .u8 0, .int .u8 0, .int .u8 0, .int .u8 0, .int .u8 0, .int .u8 0, .int .u8 0, .int .u8 0, .int .u8 0, .int .u8 0, .int .u8 0, .int .u8 0, .int .u8 0, .int .u8 0, .int .u8 0, .int .u8 0, .int .u8 0, .int .u8 0, .int .u8 0, .int .u8 0, .int .u8 0, .int .u8 0, .int .u8 0, .int .u8 0, .int .u8 0, .int .u8 0, .int .u8 0, .int .u8 0, .int .u8 0, .int .u8 0, .int .u8 0, .int .u8 0, .int .u8 0, .int .u8 0, .int .u8 0, .int .u8 0, .int .u8 0, .int .u8 0, .int .u8 0, .int .u8 0, .int .u8 0, .int .u8 0, .int .u8 0, .int .u8 0, .int .u8 0, .int .u8 0, .int .u8 0, .int .u8 0, .int .u8 0, .int .u8 0, .int .u8 0, .int .u8 0, .int .u8 0] := by kernel_rfl
theorem eD_0 (m : Nat) : ar .u8 72 (eD m 0) = #[.int .u8 128, .int .u8 0, .int .u8 0, .int .u8 0, .int .u8 0, .int .u8 0, .int .u8 0, .int .u8 0, .int .u8 0, .int .u8 0, .int .u8 0, .int .u8 0, .int .u8 0, .int .u8 0, .int .u8 0, .int .u8 0, .int .u8 0, .int .u8 0, .int .u8 0, .int .u8 0, .int .u8 0, .int .u8 0, .int .u8 0, .int .u8 0, .int .u8 0, .int .u8 0, .int .u8 0, .int .u8 0, .int .u8 0, .int .u8 0, .int .u8 0, .int .u8 0, .int .u8 0, .int .u8 0, .int .u8 0, .int .u8 0, .int .u8 0, .int .u8 0, .int .u8 0, .int .u8 0, .int .u8 0, .int .u8 0, .int .u8 0, .int .u8 0, .int .u8 0, .int .u8 0, .int .u8 0, .int .u8 0, .int .u8 0, .int .u8 0, .int .u8 0, .int .u8 0, .int .u8 0, .int .u8 0, .int .u8 0, .int .u8 0, .int .u8 0, .int .u8 0, .int .u8 0, .int .u8 0, .int .u8 0, .int .u8 0, .int .u8 0, .int .u8 0, .int .u8 0, .int .u8 0, .int .u8 0, .int .u8 0, .int .u8 0, .int .u8 0, .int .u8 0, .int .u8 0] := by
  rw [← e72]
  exact ar_congr fun j _ => by
    unfold eD
    by_cases e : j = 0
    · rw [if_pos e, if_pos e]
    · rw [if_neg e, if_neg (by omega), if_neg e]
theorem eD_8 (m j : Nat) (hj : j < aheadS m + 8) : eD m 8 j = ((sE m j : Nat) : Int) := by
  unfold eD sE
  by_cases e : j = 0
  · rw [if_pos e, if_pos e]; rfl
  · rw [if_neg e, if_neg e]
    by_cases e1 : j < aheadS m
    · rw [if_neg (by omega), if_pos e1]; rfl
    · rw [if_pos (by omega), if_neg e1]
theorem spad_lo (f : Nat → Nat) {m j : Nat} (h : j < m) : spad f m j = f j := by unfold spad; rw [if_pos h]
theorem spad_hi (f : Nat → Nat) (m j : Nat) : spad f m (m + j) = sE m j := by unfold spad; rw [if_neg (by omega), Nat.add_sub_cancel_left]
theorem info72 : (Tryd.prog.info? 64).map (·.size) = some 72 := by kernel_rfl
theorem info73 : (Tryd.prog.info? 49).map (·.size) = some 73 := by kernel_rfl
theorem info8n : (Tryd.prog.info? 43).map (·.size) = some 8 := by kernel_rfl
theorem sl72 (E k : Nat) (h : k ≤ 72) (w : World) : (Instr.sliceAt 64 (.pointer (some ⟨E, 0, none⟩)) none (some (.int .u64 (k : Nat))) none).run Tryd.prog w = .ok (.slice (some ⟨E, 0, none⟩) k 72) w := by
  have hlen : Tryd.prog.arrayLen 64 = 72 := by kernel_rfl
  have hsz : (sizeOf (Tryd.prog.elem 64)).run Tryd.prog w = .ok 1 w := by kernel_rfl
  rw [run_sliceAt_array_h (P := Tryd.prog) (w := w) 64 ⟨E, 0, none⟩ (by kernel_rfl) .u64 _ (by omega) (by rw [hlen]; omega), hsz, hlen]
  simp only [Result.andThen, slicedAt, Addr.add]
  rw [if_neg (by omega), Int.toNat_natCast]
  simp
/-- The worlds of finish. -/
structure CFi (w : World) (h : Nat → Int) (l : Nat → Nat) (m : Nat) (v : Nat → Int) (wx : World) : Prop where
  old : Below w.heap.size w wx
  r0 : wx.heap[w.heap.size]? = some (.cells (hr h (tlD l m)) 49 (0, 0))
  r1 : wx.heap[w.heap.size + 1]? = some (.cells #[.int .u8 0, .int .u8 0, .int .u8 0, .int .u8 0, .int .u8 0, .int .u8 0, .int .u8 0, .int .u8 0, .int .u8 0, .int .u8 0, .int .u8 0, .int .u8 0, .int .u8 0, .int .u8 0, .int .u8 0, .int .u8 0, .int .u8 0, .int .u8 0, .int .u8 0, .int .u8 0, .int .u8 0, .int .u8 0, .int .u8 0, .int .u8 0, .int .u8 0, .int .u8 0, .int .u8 0, .int .u8 0, .int .u8 0, .int .u8 0, .int .u8 0, .int .u8 0] 25 (0, 0))
  r2 : wx.heap[w.heap.size + 1 + 1]? = some (.cells (ar .u8 72 v) 64 (0, 0))
section
variable {w wx : World} {h v : Nat → Int} {l : Nat → Nat} {m : Nat}
theorem CFi.drew (c : CFi w h l m v wx) : CFi w h l m v wx.drew := ⟨c.old.drew, c.r0, c.r1, c.r2⟩
theorem CFi.set (c : CFi w h l m v wx) (j : Nat) (hj : j < 72) (y : Int) : CFi w h l m (updI v j y) (wx.setCell ⟨w.heap.size + 1 + 1, j, none⟩ (.int .u8 y)) :=
  ⟨c.old.setCell (by show w.heap.size ≤ w.heap.size + 1 + 1; omega) _, (heap_setCell_other _ _ _ _ (by show w.heap.size ≠ w.heap.size + 1 + 1; omega)).trans c.r0, (heap_setCell_other _ _ _ _ (by show w.heap.size + 1 ≠ w.heap.size + 1 + 1; omega)).trans c.r1, (heap_setCell_same _ _ _ _ _ _ c.r2).trans (by rw [ar_set _ _ _ _ _ hj])⟩
end
set_option maxRecDepth 100000 in
set_option maxHeartbeats 8000000 in
-- WHAT finish COMES TO.
theorem hfinish {m : Nat} {f l : Nat → Nat} (hm : m + 72 < 1125899906842624) (hf : ∀ j, f j < 256) (hl : ∀ j, l j < 256) (hl1 : ∀ j, j < m % 64 → l j = f (64 * (m / 64) + j)) (w : World) (hT : STab w) :
    Calls Tryd.prog 19 #[.agg (hr (hB f (m / 64)) (tlD l m))] w fun e w' => e = .returned (.agg (ar .u8 32 (shaH f m))) ∧ Below w.heap.size w w' := by
  have HT := Lib.hid (And.intro hT (And.intro (sapt_of hT (Nat.le_refl _)) (And.intro hf (And.intro hl hl1))))
  have HM := Lib.hid hm
  obtain ⟨g, hg⟩ : ∃ g, hB f (m / 64) = g := ⟨_, rfl⟩
  rw [hg]
  have HG := Lib.hid hg
  obtain ⟨w2, hw2⟩ : ∃ z, (w.alloc (.cells (hr g (tlD l m)) 49)).alloc (.cells #[.int .u8 0, .int .u8 0, .int .u8 0, .int .u8 0, .int .u8 0, .int .u8 0, .int .u8 0, .int .u8 0, .int .u8 0, .int .u8 0, .int .u8 0, .int .u8 0, .int .u8 0, .int .u8 0, .int .u8 0, .int .u8 0, .int .u8 0, .int .u8 0, .int .u8 0, .int .u8 0, .int .u8 0, .int .u8 0, .int .u8 0, .int .u8 0, .int .u8 0, .int .u8 0, .int .u8 0, .int .u8 0, .int .u8 0, .int .u8 0, .int .u8 0, .int .u8 0] 25) = z := ⟨_, rfl⟩
  have hb2 : Below w.heap.size w w2 := by rw [← hw2]; go_grown
  have hsz : w2.heap.size = w.heap.size + 1 + 1 := by rw [← hw2]; simp
  have hh0 : w2.heap[w.heap.size]? = some (.cells (hr g (tlD l m)) 49 (0, 0)) := by rw [← hw2]; exact (heap_alloc_old _ _ (by simp)).trans (heap_alloc_new _ _)
  have hh1 : w2.heap[w.heap.size + 1]? = some (.cells #[.int .u8 0, .int .u8 0, .int .u8 0, .int .u8 0, .int .u8 0, .int .u8 0, .int .u8 0, .int .u8 0, .int .u8 0, .int .u8 0, .int .u8 0, .int .u8 0, .int .u8 0, .int .u8 0, .int .u8 0, .int .u8 0, .int .u8 0, .int .u8 0, .int .u8 0, .int .u8 0, .int .u8 0, .int .u8 0, .int .u8 0, .int .u8 0, .int .u8 0, .int .u8 0, .int .u8 0, .int .u8 0, .int .u8 0, .int .u8 0, .int .u8 0, .int .u8 0] 25 (0, 0)) := by
    rw [← hw2]
    have h := heap_alloc_new (w.alloc (.cells (hr g (tlD l m)) 49)) (.cells #[.int .u8 0, .int .u8 0, .int .u8 0, .int .u8 0, .int .u8 0, .int .u8 0, .int .u8 0, .int .u8 0, .int .u8 0, .int .u8 0, .int .u8 0, .int .u8 0, .int .u8 0, .int .u8 0, .int .u8 0, .int .u8 0, .int .u8 0, .int .u8 0, .int .u8 0, .int .u8 0, .int .u8 0, .int .u8 0, .int .u8 0, .int .u8 0, .int .u8 0, .int .u8 0, .int .u8 0, .int .u8 0, .int .u8 0, .int .u8 0, .int .u8 0, .int .u8 0] 25)
    simpa using h
  have c72 := (cell_of_row _ _ 72 _ _ _ hh0).trans (dg_n g l m)
  have hr3 : (w2.alloc (.cells #[.int .u8 0, .int .u8 0, .int .u8 0, .int .u8 0, .int .u8 0, .int .u8 0, .int .u8 0, .int .u8 0, .int .u8 0, .int .u8 0, .int .u8 0, .int .u8 0, .int .u8 0, .int .u8 0, .int .u8 0, .int .u8 0, .int .u8 0, .int .u8 0, .int .u8 0, .int .u8 0, .int .u8 0, .int .u8 0, .int .u8 0, .int .u8 0, .int .u8 0, .int .u8 0, .int .u8 0, .int .u8 0, .int .u8 0, .int .u8 0, .int .u8 0, .int .u8 0, .int .u8 0, .int .u8 0, .int .u8 0, .int .u8 0, .int .u8 0, .int .u8 0, .int .u8 0, .int .u8 0, .int .u8 0, .int .u8 0, .int .u8 0, .int .u8 0, .int .u8 0, .int .u8 0, .int .u8 0, .int .u8 0, .int .u8 0, .int .u8 0, .int .u8 0, .int .u8 0, .int .u8 0, .int .u8 0, .int .u8 0, .int .u8 0, .int .u8 0, .int .u8 0, .int .u8 0, .int .u8 0, .int .u8 0, .int .u8 0, .int .u8 0, .int .u8 0, .int .u8 0, .int .u8 0, .int .u8 0, .int .u8 0, .int .u8 0, .int .u8 0, .int .u8 0, .int .u8 0] 64)).heap[w.heap.size + 1 + 1]? = some (.cells #[.int .u8 0, .int .u8 0, .int .u8 0, .int .u8 0, .int .u8 0, .int .u8 0, .int .u8 0, .int .u8 0, .int .u8 0, .int .u8 0, .int .u8 0, .int .u8 0, .int .u8 0, .int .u8 0, .int .u8 0, .int .u8 0, .int .u8 0, .int .u8 0, .int .u8 0, .int .u8 0, .int .u8 0, .int .u8 0, .int .u8 0, .int .u8 0, .int .u8 0, .int .u8 0, .int .u8 0, .int .u8 0, .int .u8 0, .int .u8 0, .int .u8 0, .int .u8 0, .int .u8 0, .int .u8 0, .int .u8 0, .int .u8 0, .int .u8 0, .int .u8 0, .int .u8 0, .int .u8 0, .int .u8 0, .int .u8 0, .int .u8 0, .int .u8 0, .int .u8 0, .int .u8 0, .int .u8 0, .int .u8 0, .int .u8 0, .int .u8 0, .int .u8 0, .int .u8 0, .int .u8 0, .int .u8 0, .int .u8 0, .int .u8 0, .int .u8 0, .int .u8 0, .int .u8 0, .int .u8 0, .int .u8 0, .int .u8 0, .int .u8 0, .int .u8 0, .int .u8 0, .int .u8 0, .int .u8 0, .int .u8 0, .int .u8 0, .int .u8 0, .int .u8 0, .int .u8 0] 64 (0, 0)) := by rw [← hsz]; exact heap_alloc_new _ _
  have HR3 := Lib.hid hr3
  have H0 := Lib.hid (show CFi w g l m (eD m 0) ((w2.alloc (.cells #[.int .u8 0, .int .u8 0, .int .u8 0, .int .u8 0, .int .u8 0, .int .u8 0, .int .u8 0, .int .u8 0, .int .u8 0, .int .u8 0, .int .u8 0, .int .u8 0, .int .u8 0, .int .u8 0, .int .u8 0, .int .u8 0, .int .u8 0, .int .u8 0, .int .u8 0, .int .u8 0, .int .u8 0, .int .u8 0, .int .u8 0, .int .u8 0, .int .u8 0, .int .u8 0, .int .u8 0, .int .u8 0, .int .u8 0, .int .u8 0, .int .u8 0, .int .u8 0, .int .u8 0, .int .u8 0, .int .u8 0, .int .u8 0, .int .u8 0, .int .u8 0, .int .u8 0, .int .u8 0, .int .u8 0, .int .u8 0, .int .u8 0, .int .u8 0, .int .u8 0, .int .u8 0, .int .u8 0, .int .u8 0, .int .u8 0, .int .u8 0, .int .u8 0, .int .u8 0, .int .u8 0, .int .u8 0, .int .u8 0, .int .u8 0, .int .u8 0, .int .u8 0, .int .u8 0, .int .u8 0, .int .u8 0, .int .u8 0, .int .u8 0, .int .u8 0, .int .u8 0, .int .u8 0, .int .u8 0, .int .u8 0, .int .u8 0, .int .u8 0, .int .u8 0, .int .u8 0] 64)).setRow (w.heap.size + 1 + 1) #[.int .u8 128, .int .u8 0, .int .u8 0, .int .u8 0, .int .u8 0, .int .u8 0, .int .u8 0, .int .u8 0, .int .u8 0, .int .u8 0, .int .u8 0, .int .u8 0, .int .u8 0, .int .u8 0, .int .u8 0, .int .u8 0, .int .u8 0, .int .u8 0, .int .u8 0, .int .u8 0, .int .u8 0, .int .u8 0, .int .u8 0, .int .u8 0, .int .u8 0, .int .u8 0, .int .u8 0, .int .u8 0, .int .u8 0, .int .u8 0, .int .u8 0, .int .u8 0, .int .u8 0, .int .u8 0, .int .u8 0, .int .u8 0, .int .u8 0, .int .u8 0, .int .u8 0, .int .u8 0, .int .u8 0, .int .u8 0, .int .u8 0, .int .u8 0, .int .u8 0, .int .u8 0, .int .u8 0, .int .u8 0, .int .u8 0, .int .u8 0, .int .u8 0, .int .u8 0, .int .u8 0, .int .u8 0, .int .u8 0, .int .u8 0, .int .u8 0, .int .u8 0, .int .u8 0, .int .u8 0, .int .u8 0, .int .u8 0, .int .u8 0, .int .u8 0, .int .u8 0, .int .u8 0, .int .u8 0, .int .u8 0, .int .u8 0, .int .u8 0, .int .u8 0, .int .u8 0]) from ⟨below_setRow (hb2.alloc (by omega) _) (by omega) _, (setRow_other _ _ _ _ (by omega)).trans ((heap_alloc_old _ _ (by omega)).trans hh0), (setRow_other _ _ _ _ (by omega)).trans ((heap_alloc_old _ _ (by omega)).trans hh1), by rw [eD_0]; exact setRow_heap _ _ _ _ _ _ hr3⟩)
  obtain ⟨M, hM8⟩ : ∃ M, 8 * m = M := ⟨_, rfl⟩
  have e1 : 8 * (m : Int) = (M : Int) := by omega
  have ww1 : IntKind.u64.wrap (M : Int) = (M : Int) := by rw [IntKind.wrap_u64]; omega
  obtain ⟨m8, hm8⟩ : ∃ m8, m + 8 = m8 := ⟨_, rfl⟩
  have e2 : (m : Int) + 8 = (m8 : Int) := by omega
  have ww2 : IntKind.u64.wrap (m8 : Int) = (m8 : Int) := by rw [IntKind.wrap_u64]; omega
  obtain ⟨x, hx⟩ : ∃ x, m8 % 64 = x := ⟨_, rfl⟩
  have e3 : (m8 : Int) % 64 = (x : Int) := by omega
  have e3' : (m8 : Int).tmod 64 = (x : Int) := by rw [Int.tmod_eq_emod_of_nonneg (by omega)]; omega
  have ww3 : IntKind.u64.wrap (x : Int) = (x : Int) := by rw [IntKind.wrap_u64]; omega
  obtain ⟨A, hA⟩ : ∃ A, 64 - x = A := ⟨_, rfl⟩
  have e4 : 64 - (x : Int) = (A : Int) := by omega
  have ww4 : IntKind.u64.wrap (A : Int) = (A : Int) := by rw [IntKind.wrap_u64]; omega
  have hAm : aheadS m = A := by unfold aheadS; omega
  have HA := Lib.hid (And.intro hAm (And.intro hM8 (show 1 ≤ A ∧ A ≤ 64 by omega)))
  clear hT hf hl hl1 hg hh0 hh1 hb2 hr3 hM8 hm8 hx hA hAm hm
  go_enter Tryd.func19, Tryd.ntmps19
  go_upto_region 3 with fail
  refine region_list ?_
  refine wpList_val (w' := w2) rfl (.agg #[.int .u8 128, .int .u8 0, .int .u8 0, .int .u8 0, .int .u8 0, .int .u8 0, .int .u8 0, .int .u8 0, .int .u8 0, .int .u8 0, .int .u8 0, .int .u8 0, .int .u8 0, .int .u8 0, .int .u8 0, .int .u8 0, .int .u8 0, .int .u8 0, .int .u8 0, .int .u8 0, .int .u8 0, .int .u8 0, .int .u8 0, .int .u8 0, .int .u8 0, .int .u8 0, .int .u8 0, .int .u8 0, .int .u8 0, .int .u8 0, .int .u8 0, .int .u8 0, .int .u8 0, .int .u8 0, .int .u8 0, .int .u8 0, .int .u8 0, .int .u8 0, .int .u8 0, .int .u8 0, .int .u8 0, .int .u8 0, .int .u8 0, .int .u8 0, .int .u8 0, .int .u8 0, .int .u8 0, .int .u8 0, .int .u8 0, .int .u8 0, .int .u8 0, .int .u8 0, .int .u8 0, .int .u8 0, .int .u8 0, .int .u8 0, .int .u8 0, .int .u8 0, .int .u8 0, .int .u8 0, .int .u8 0, .int .u8 0, .int .u8 0, .int .u8 0, .int .u8 0, .int .u8 0, .int .u8 0, .int .u8 0, .int .u8 0, .int .u8 0, .int .u8 0, .int .u8 0]) (by kernel_rfl) ?_
  refine wpList_val (w' := w2.alloc (.cells #[.int .u8 0, .int .u8 0, .int .u8 0, .int .u8 0, .int .u8 0, .int .u8 0, .int .u8 0, .int .u8 0, .int .u8 0, .int .u8 0, .int .u8 0, .int .u8 0, .int .u8 0, .int .u8 0, .int .u8 0, .int .u8 0, .int .u8 0, .int .u8 0, .int .u8 0, .int .u8 0, .int .u8 0, .int .u8 0, .int .u8 0, .int .u8 0, .int .u8 0, .int .u8 0, .int .u8 0, .int .u8 0, .int .u8 0, .int .u8 0, .int .u8 0, .int .u8 0, .int .u8 0, .int .u8 0, .int .u8 0, .int .u8 0, .int .u8 0, .int .u8 0, .int .u8 0, .int .u8 0, .int .u8 0, .int .u8 0, .int .u8 0, .int .u8 0, .int .u8 0, .int .u8 0, .int .u8 0, .int .u8 0, .int .u8 0, .int .u8 0, .int .u8 0, .int .u8 0, .int .u8 0, .int .u8 0, .int .u8 0, .int .u8 0, .int .u8 0, .int .u8 0, .int .u8 0, .int .u8 0, .int .u8 0, .int .u8 0, .int .u8 0, .int .u8 0, .int .u8 0, .int .u8 0, .int .u8 0, .int .u8 0, .int .u8 0, .int .u8 0, .int .u8 0, .int .u8 0] 64)) rfl (.pointer (some ⟨w2.heap.size, 0, none⟩)) (by kernel_rfl) ?_
  simp only [Act.put, List.setIfInBounds_toArray, List.set_cons_succ, List.set_cons_zero]
  rw [hsz]
  refine wpList_store_row rfl 64 _ _ rfl (w.heap.size + 1 + 1) #[.int .u8 128, .int .u8 0, .int .u8 0, .int .u8 0, .int .u8 0, .int .u8 0, .int .u8 0, .int .u8 0, .int .u8 0, .int .u8 0, .int .u8 0, .int .u8 0, .int .u8 0, .int .u8 0, .int .u8 0, .int .u8 0, .int .u8 0, .int .u8 0, .int .u8 0, .int .u8 0, .int .u8 0, .int .u8 0, .int .u8 0, .int .u8 0, .int .u8 0, .int .u8 0, .int .u8 0, .int .u8 0, .int .u8 0, .int .u8 0, .int .u8 0, .int .u8 0, .int .u8 0, .int .u8 0, .int .u8 0, .int .u8 0, .int .u8 0, .int .u8 0, .int .u8 0, .int .u8 0, .int .u8 0, .int .u8 0, .int .u8 0, .int .u8 0, .int .u8 0, .int .u8 0, .int .u8 0, .int .u8 0, .int .u8 0, .int .u8 0, .int .u8 0, .int .u8 0, .int .u8 0, .int .u8 0, .int .u8 0, .int .u8 0, .int .u8 0, .int .u8 0, .int .u8 0, .int .u8 0, .int .u8 0, .int .u8 0, .int .u8 0, .int .u8 0, .int .u8 0, .int .u8 0, .int .u8 0, .int .u8 0, .int .u8 0, .int .u8 0, .int .u8 0, .int .u8 0] rfl rfl 64 _ HR3.out (by rw [info72]; rfl) rfl (by kernel_rfl) ?_
  obtain ⟨w4, hw4⟩ : ∃ z, (w2.alloc (.cells #[.int .u8 0, .int .u8 0, .int .u8 0, .int .u8 0, .int .u8 0, .int .u8 0, .int .u8 0, .int .u8 0, .int .u8 0, .int .u8 0, .int .u8 0, .int .u8 0, .int .u8 0, .int .u8 0, .int .u8 0, .int .u8 0, .int .u8 0, .int .u8 0, .int .u8 0, .int .u8 0, .int .u8 0, .int .u8 0, .int .u8 0, .int .u8 0, .int .u8 0, .int .u8 0, .int .u8 0, .int .u8 0, .int .u8 0, .int .u8 0, .int .u8 0, .int .u8 0, .int .u8 0, .int .u8 0, .int .u8 0, .int .u8 0, .int .u8 0, .int .u8 0, .int .u8 0, .int .u8 0, .int .u8 0, .int .u8 0, .int .u8 0, .int .u8 0, .int .u8 0, .int .u8 0, .int .u8 0, .int .u8 0, .int .u8 0, .int .u8 0, .int .u8 0, .int .u8 0, .int .u8 0, .int .u8 0, .int .u8 0, .int .u8 0, .int .u8 0, .int .u8 0, .int .u8 0, .int .u8 0, .int .u8 0, .int .u8 0, .int .u8 0, .int .u8 0, .int .u8 0, .int .u8 0, .int .u8 0, .int .u8 0, .int .u8 0, .int .u8 0, .int .u8 0, .int .u8 0] 64)).setRow (w.heap.size + 1 + 1) #[.int .u8 128, .int .u8 0, .int .u8 0, .int .u8 0, .int .u8 0, .int .u8 0, .int .u8 0, .int .u8 0, .int .u8 0, .int .u8 0, .int .u8 0, .int .u8 0, .int .u8 0, .int .u8 0, .int .u8 0, .int .u8 0, .int .u8 0, .int .u8 0, .int .u8 0, .int .u8 0, .int .u8 0, .int .u8 0, .int .u8 0, .int .u8 0, .int .u8 0, .int .u8 0, .int .u8 0, .int .u8 0, .int .u8 0, .int .u8 0, .int .u8 0, .int .u8 0, .int .u8 0, .int .u8 0, .int .u8 0, .int .u8 0, .int .u8 0, .int .u8 0, .int .u8 0, .int .u8 0, .int .u8 0, .int .u8 0, .int .u8 0, .int .u8 0, .int .u8 0, .int .u8 0, .int .u8 0, .int .u8 0, .int .u8 0, .int .u8 0, .int .u8 0, .int .u8 0, .int .u8 0, .int .u8 0, .int .u8 0, .int .u8 0, .int .u8 0, .int .u8 0, .int .u8 0, .int .u8 0, .int .u8 0, .int .u8 0, .int .u8 0, .int .u8 0, .int .u8 0, .int .u8 0, .int .u8 0, .int .u8 0, .int .u8 0, .int .u8 0, .int .u8 0, .int .u8 0] = z := ⟨_, rfl⟩
  rw [hw4] at H0 ⊢
  clear hw4 HR3 hw2 c72 hsz
  go_wp2_with fail
  go_loopw [16] (fun i wr => ∃ k : Nat, k ≤ 8 ∧ i = .int .u64 k ∧ Hid (CFi w g l m (eD m k) wr)) (fun i _ => 8 - (intOf i).toNat)
  case atStart => exact ⟨0, by omega, rfl, H0⟩
  case round =>
    obtain ⟨k, hk, rfl, H⟩ := hrel
    clear H0
    have hk0 : (0 : Int) ≤ k := by omega
    by_cases hlt : k < 8
    · have hlt' : (k : Int) < 8 := by omega
      have HN := eD_next m k hlt
      rw [HA.out.2.1, HA.out.1] at HN
      obtain ⟨y, hy⟩ : ∃ y : Nat, M / 2 ^ (56 - 8 * k) % 256 = y := ⟨_, rfl⟩
      obtain ⟨s, hs⟩ : ∃ s, 56 - 8 * k = s := ⟨_, rfl⟩
      rw [hy] at HN
      rw [hs] at hy
      obtain ⟨q, hq⟩ : ∃ q, A + k = q := ⟨_, rfl⟩
      rw [hq] at HN
      have hA := HA.out.2.2
      have q1 : q < 72 := by omega
      have a1 : (A : Int) + (k : Int) = (q : Int) := by omega
      have a2 : IntKind.u64.wrap (q : Int) = (q : Int) := by rw [IntKind.wrap_u64]; omega
      have a0 : (0 : Int) ≤ q := by omega
      have a3 : (q : Int) < 72 := by omega
      obtain ⟨k8, hk8⟩ : ∃ k8, 8 * k = k8 := ⟨_, rfl⟩
      have b1 : 8 * (k : Int) = (k8 : Int) := by omega
      have b2 : IntKind.u64.wrap (k8 : Int) = (k8 : Int) := by rw [IntKind.wrap_u64]; omega
      have b3 : 56 - (k8 : Int) = (s : Int) := by omega
      have b4 : IntKind.u64.wrap (s : Int) = (s : Int) := by rw [IntKind.wrap_u64]; omega
      have b5 : (0 : Int) ≤ s := by omega
      have b6 : (s : Int) < 64 := by omega
      have d1 : (M : Int) / 2 ^ s % 256 = (y : Int) := by
        rw [← hy]
        push_cast
        rfl
      have d2 : IntKind.u8.wrap ((M : Int) / 2 ^ s) = (y : Int) := by rw [IntKind.wrap_u8]; exact d1
      have co := (cell_of_row wr _ q _ _ _ H.out.r2).trans (ar_at _ _ _ _ q1)
      have fo := frozen_of_row _ _ q _ _ H.out.r2
      have H5 := H.out.set q q1 (y : Int)
      rw [HN] at H5
      have H6 := Lib.hid H5
      clear H5 HN hy hs hq hk8 H hA
      go_wp2_with fail
      go_roundw
      case rel => exact ⟨k + 1, by omega, by go_num, H6⟩
      case measure => simp [intOf]; omega
    · obtain rfl : k = 8 := by omega
      obtain ⟨B8, hB8⟩ : ∃ B8, A + 8 = B8 := ⟨_, rfl⟩
      have hA := HA.out.2.2
      have hm := HM.out
      have f1 : (A : Int) + 8 = (B8 : Int) := by omega
      have f2 : IntKind.u64.wrap (B8 : Int) = (B8 : Int) := by rw [IntKind.wrap_u64]; omega
      have hsl := sl72 (w.heap.size + 1 + 1) B8 (by omega) wr
      have hlE : w.heap.size + 1 + 1 < wr.heap.size := (Array.getElem?_eq_some_iff.1 H.out.r2).1
      have hgg : hB (spad f m) (m / 64) = g := by rw [← HG.out]; exact hB_congr _ fun j hj => spad_lo f (by omega)
      have HW := Lib.hid (hwrite (V := w.heap.size) (m := m) (n := B8) (f := spad f m) (v := .slice (some ⟨w.heap.size + 1 + 1, 0, none⟩) B8 72) (by omega) (fun j => spad_lt HT.out.2.2.1 m j) wr (HT.out.1.below H.out.old) HT.out.2.1
        ⟨some ⟨w.heap.size + 1 + 1, 0, none⟩, 72, rfl, by omega, nofun, .inr ⟨w.heap.size + 1 + 1, 0, rfl, hlE, fun j hj => by
          show wr.cell? ⟨w.heap.size + 1 + 1, 0 + j, none⟩ = some (.int .u8 (spad f m (m + j) : Nat))
          rw [spad_hi, Nat.zero_add, ← eD_8 m j (by rw [HA.out.1]; omega)]
          exact (cell_of_row wr _ j _ _ _ H.out.r2).trans (ar_at _ _ _ _ (by omega))⟩⟩
        (fun a cap hv _ b o hb => by
          injection hv with hv
          rw [← hv] at hb
          injection hb with hb
          injection hb with hb
          omega)
        ⟨l, fun j hj => by rw [spad_lo f (by omega)]; exact HT.out.2.2.2.2 j hj, HT.out.2.2.2.1, Bt.refl _ _, by rw [hgg]; exact H.out.r0⟩)
      have hTm : m + B8 = sT m := by unfold sT; rw [HA.out.1]; omega
      rw [hTm] at HW
      have H1 := Lib.hid (And.intro H.out.old H.out.r1)
      have HE := Lib.hid (show shaH f m = sby (hB (spad f m) (sT m / 64)) from rfl)
      clear hB8 hA hm hlE hgg hTm H
      go_wp2_with fail
      refine HW.out.mono ?_
      rintro e w5 ⟨rfl, l', -, -, hb, hrow⟩
      obtain ⟨G, hG⟩ : ∃ G, hB (spad f m) (sT m / 64) = G := ⟨_, rfl⟩
      rw [hG] at hrow HE
      have H5 := Lib.hid (show Below w.heap.size w w5 ∧ w5.heap[w.heap.size + 1]? = some (.cells #[.int .u8 0, .int .u8 0, .int .u8 0, .int .u8 0, .int .u8 0, .int .u8 0, .int .u8 0, .int .u8 0, .int .u8 0, .int .u8 0, .int .u8 0, .int .u8 0, .int .u8 0, .int .u8 0, .int .u8 0, .int .u8 0, .int .u8 0, .int .u8 0, .int .u8 0, .int .u8 0, .int .u8 0, .int .u8 0, .int .u8 0, .int .u8 0, .int .u8 0, .int .u8 0, .int .u8 0, .int .u8 0, .int .u8 0, .int .u8 0, .int .u8 0, .int .u8 0] 25 (0, 0)) from ⟨hb.below H1.out.1 (Nat.le_refl _) H1.out.1.size, (hb.block _ (by omega) (Array.getElem?_eq_some_iff.1 H1.out.2).1).trans H1.out.2⟩)
      have HC := Lib.hid (show ∀ j, j < 8 → w5.cell? ⟨w.heap.size, 0 + j, none⟩ = some (.int .u32 (G j)) from fun j hj => (cell_of_row w5 _ (0 + j) _ _ _ hrow).trans (by rw [Nat.zero_add]; exact hr_at _ _ _ hj))
      clear hb hrow HW hG hsl H1
      go_wp2_with (refine wpList_load_part rfl 43 _ rfl w.heap.size 0 8 .u32 G rfl _ HC.out Tryd.underlying43 rfl info8n ?_)
      refine (hbytes G _).mono ?_
      rintro e w6 ⟨rfl, hb6⟩
      have HB := Lib.hid (show Below w.heap.size w w6 ∧ w6.heap[w.heap.size + 1]? = some (.cells #[.int .u8 0, .int .u8 0, .int .u8 0, .int .u8 0, .int .u8 0, .int .u8 0, .int .u8 0, .int .u8 0, .int .u8 0, .int .u8 0, .int .u8 0, .int .u8 0, .int .u8 0, .int .u8 0, .int .u8 0, .int .u8 0, .int .u8 0, .int .u8 0, .int .u8 0, .int .u8 0, .int .u8 0, .int .u8 0, .int .u8 0, .int .u8 0, .int .u8 0, .int .u8 0, .int .u8 0, .int .u8 0, .int .u8 0, .int .u8 0, .int .u8 0, .int .u8 0] 25 (0, 0)) from ⟨H5.out.1.trans (hb6.mono H5.out.1.size), (hb6.block _ (Array.getElem?_eq_some_iff.1 H5.out.2).1).trans H5.out.2⟩)
      obtain ⟨y, hy⟩ : ∃ y, sby G = y := ⟨_, rfl⟩
      rw [hy] at HE ⊢
      clear hb6 hy H5 HC
      have HI : Hid ((Tryd.prog.info? 25).map (·.size) = some (ar .u8 32 y).size) := Lib.hid (by rw [ar_size]; exact info32s)
      go_wp2_with (refine wpList_store_row rfl 25 _ _ rfl (w.heap.size + 1) (ar .u8 32 y) rfl rfl 25 _ HB.out.2 HI.out (by rw [ar_size]; rfl) (ar_one _ _ _) ?_)
      refine bodyPost_ret (v := .agg (ar .u8 32 y)) (results_cell_row (p := 2) rfl _ _ (w.heap.size + 1) 25 _ (0, 0) _ rfl (setRow_heap _ _ _ _ _ _ HB.out.2) Tryd.underlying25 rfl HI.out) rfl ⟨by rw [HE.out], below_setRow HB.out.1 (by omega) _⟩
end Go.Proofs.YtkecehcnoihiiaaDoor
namespace Go.Proofs.YtkecehcnoihiiaaDoor
open Go.RowKit

theorem wpList_that {P : Program} {ops : Array Oper} {rest : List Oper} {o : Oper} {a : Act} {w w' : World} {Q : Exit → Act → World → Prop} (x : Op) (_ho : o.op = x) (hgd : o.guard = none) (v : Value) (hr : (execOp a.eval o).run P w = .ok (.value v) w')
    (h : wpList P ops Q rest (a.put o.dst v) w') : wpList P ops Q (o :: rest) a w := wpList_val hgd v hr h
theorem ini_lit : (#[.int .u32 1779033703, .int .u32 3144134277, .int .u32 1013904242, .int .u32 2773480762, .int .u32 1359893119, .int .u32 2600822924, .int .u32 528734635, .int .u32 1541459225] : Array Value) = ar .u32 8 iniH := by kernel_rfl
set_option maxRecDepth 100000 in
-- WHAT beginning COMES TO.
theorem hbegin (w : World) : Calls Tryd.prog 16 #[] w fun e w' => e = .returned (.agg (ar .u32 8 iniH)) ∧ Below w.heap.size w w' := by
  have HR := Lib.hid (heap_alloc_new w (.cells #[.int .u32 0, .int .u32 0, .int .u32 0, .int .u32 0, .int .u32 0, .int .u32 0, .int .u32 0, .int .u32 0] 43))
  have HI : Hid ((Tryd.prog.info? 43).map (·.size) = some (ar .u32 8 iniH).size) := Lib.hid (by rw [ar_size]; exact info8n)
  go_enter Tryd.func16, Tryd.ntmps16
  go_upto_region 1 with fail
  refine region_list ?_
  refine wpList_val (w' := w.alloc (.cells #[.int .u32 0, .int .u32 0, .int .u32 0, .int .u32 0, .int .u32 0, .int .u32 0, .int .u32 0, .int .u32 0] 43)) rfl (.agg (ar .u32 8 iniH)) (by kernel_rfl) ?_
  simp only [Act.put, List.setIfInBounds_toArray, List.set_cons_succ, List.set_cons_zero]
  refine wpList_store_row rfl 43 _ _ rfl w.heap.size (ar .u32 8 iniH) rfl rfl 43 _ HR.out HI.out (by rw [ar_size]; rfl) (ar_one _ _ _) ?_
  go_wp2_with fail
  refine bodyPost_ret (v := .agg (ar .u32 8 iniH)) (results_cell_row (p := 0) rfl _ _ w.heap.size 43 _ (0, 0) _ rfl (setRow_heap _ _ _ _ _ _ HR.out) Tryd.underlying43 rfl HI.out) rfl ⟨rfl, below_setRow ((Below.refl _ _).alloc (Nat.le_refl _) _) (Nat.le_refl _) _⟩
set_option maxRecDepth 100000 in
-- WHAT New COMES TO.
theorem hnew (w : World) : Calls Tryd.prog 7 #[] w fun e w' => ∃ V, e = .returned (.pointer (some ⟨V, 0, none⟩)) ∧ w.heap.size ≤ V ∧ Below w.heap.size w w' ∧ w'.heap[V]? = some (.cells (hr iniH (tlD (fun _ => 0) 0)) 49 (0, 0)) := by
  go_enter Tryd.func7, Tryd.ntmps7
  go_wp2_with fail
  refine (hbegin _).mono ?_
  rintro e w1 ⟨rfl, hb⟩
  have HB := Lib.hid hb
  clear hb
  go_wp2_with (refine wpList_that (.build 49 #[(0, .tmp 1)]) rfl (w' := w1) rfl (.agg (hr iniH (tlD (fun _ => 0) 0))) (by kernel_rfl) ?_)
  go_ret
  exact ⟨w1.heap.size, rfl, HB.out.size, HB.out.alloc HB.out.size _, heap_alloc_new _ _⟩
theorem DgAt.base {w wx : World} {V m : Nat} {f : Nat → Nat} (h : DgAt w V f m wx) : DgAt wx V f m wx := by
  obtain ⟨l, h1, h2, h3⟩ := h
  exact ⟨l, h1, h2, Bt.refl _ _, h3.row⟩
theorem DgAt.bt {w wx : World} {V m : Nat} {f : Nat → Nat} (h : DgAt w V f m wx) : Bt V w wx := by
  obtain ⟨l, h1, h2, h3⟩ := h
  exact h3.bt
theorem DgAt.trans {w wx wy : World} {V m : Nat} {f : Nat → Nat} (hb : Bt V w wx) (h : DgAt wx V f m wy) : DgAt w V f m wy := by
  obtain ⟨l, h1, h2, h3⟩ := h
  exact ⟨l, h1, h2, hb.trans h3.bt, h3.row⟩
theorem DgAt.keep {w wx wy : World} {V m : Nat} {f : Nat → Nat} (h : DgAt w V f m wx) (hb : Below wx.heap.size wx wy) : DgAt w V f m wy := by
  obtain ⟨l, h1, h2, h3⟩ := h
  exact ⟨l, h1, h2, h3.bt.trans (Bt.of_below hb), (hb.block _ (Array.getElem?_eq_some_iff.1 h3.row).1).trans h3.row⟩
theorem dg_new {w : World} {V : Nat} (f : Nat → Nat) (h : w.heap[V]? = some (.cells (hr iniH (tlD (fun _ => 0) 0)) 49 (0, 0))) : DgAt w V f 0 w :=
  ⟨fun _ => 0, fun j hj => by omega, fun _ => by show 0 < 256; decide, Bt.refl _ _, h⟩
set_option maxRecDepth 100000 in
set_option maxHeartbeats 4000000 in
-- WHAT Digest.Sum COMES TO.
theorem hdsum {V m : Nat} {f : Nat → Nat} (hm : m + 72 < 1125899906842624) (hf : ∀ j, f j < 256) (w : World) (hT : STab w) (hD : DgAt w V f m w) :
    Calls Tryd.prog 10 #[.pointer (some ⟨V, 0, none⟩)] w fun e w' => e = .returned (.agg (ar .u8 32 (shaH f m))) ∧ Below w.heap.size w w' := by
  obtain ⟨l, hl1, hl2, hx⟩ := hD
  have hV := (Array.getElem?_eq_some_iff.1 hx.row).1
  have hb1 : Below w.heap.size w (w.alloc (.cells #[.int .u8 0, .int .u8 0, .int .u8 0, .int .u8 0, .int .u8 0, .int .u8 0, .int .u8 0, .int .u8 0, .int .u8 0, .int .u8 0, .int .u8 0, .int .u8 0, .int .u8 0, .int .u8 0, .int .u8 0, .int .u8 0, .int .u8 0, .int .u8 0, .int .u8 0, .int .u8 0, .int .u8 0, .int .u8 0, .int .u8 0, .int .u8 0, .int .u8 0, .int .u8 0, .int .u8 0, .int .u8 0, .int .u8 0, .int .u8 0, .int .u8 0, .int .u8 0] 25)) := (Below.refl _ _).alloc (Nat.le_refl _) _
  have HFI := Lib.hid (hfinish hm hf hl2 hl1 (w.alloc (.cells #[.int .u8 0, .int .u8 0, .int .u8 0, .int .u8 0, .int .u8 0, .int .u8 0, .int .u8 0, .int .u8 0, .int .u8 0, .int .u8 0, .int .u8 0, .int .u8 0, .int .u8 0, .int .u8 0, .int .u8 0, .int .u8 0, .int .u8 0, .int .u8 0, .int .u8 0, .int .u8 0, .int .u8 0, .int .u8 0, .int .u8 0, .int .u8 0, .int .u8 0, .int .u8 0, .int .u8 0, .int .u8 0, .int .u8 0, .int .u8 0, .int .u8 0, .int .u8 0] 25)) (hT.below hb1))
  obtain ⟨g, hg⟩ : ∃ g, hB f (m / 64) = g := ⟨_, rfl⟩
  have hrow := hx.row
  rw [hg] at HFI hrow
  have HR := Lib.hid (show (w.alloc (.cells #[.int .u8 0, .int .u8 0, .int .u8 0, .int .u8 0, .int .u8 0, .int .u8 0, .int .u8 0, .int .u8 0, .int .u8 0, .int .u8 0, .int .u8 0, .int .u8 0, .int .u8 0, .int .u8 0, .int .u8 0, .int .u8 0, .int .u8 0, .int .u8 0, .int .u8 0, .int .u8 0, .int .u8 0, .int .u8 0, .int .u8 0, .int .u8 0, .int .u8 0, .int .u8 0, .int .u8 0, .int .u8 0, .int .u8 0, .int .u8 0, .int .u8 0, .int .u8 0] 25)).heap[V]? = some (.cells (hr g (tlD l m)) 49 (0, 0)) from (heap_alloc_old _ _ hV).trans hrow)
  have H1 := Lib.hid (And.intro hb1 (heap_alloc_new w (.cells #[.int .u8 0, .int .u8 0, .int .u8 0, .int .u8 0, .int .u8 0, .int .u8 0, .int .u8 0, .int .u8 0, .int .u8 0, .int .u8 0, .int .u8 0, .int .u8 0, .int .u8 0, .int .u8 0, .int .u8 0, .int .u8 0, .int .u8 0, .int .u8 0, .int .u8 0, .int .u8 0, .int .u8 0, .int .u8 0, .int .u8 0, .int .u8 0, .int .u8 0, .int .u8 0, .int .u8 0, .int .u8 0, .int .u8 0, .int .u8 0, .int .u8 0, .int .u8 0] 25)))
  have HI73 : Hid ((Tryd.prog.info? 49).map (·.size) = some (hr g (tlD l m)).size) := Lib.hid (by rw [dg_size]; exact info73)
  clear hg hx hl1 hl2 hT hb1 hrow hf hm hV
  go_enter Tryd.func10, Tryd.ntmps10
  go_wp2_with (refine wpList_load_row rfl 49 _ rfl V rfl 49 _ (0, 0) _ HR.out Tryd.underlying49 rfl HI73.out ?_)
  refine HFI.out.mono ?_
  rintro e w6 ⟨rfl, hb6⟩
  have HB := Lib.hid (show Below w.heap.size w w6 ∧ w6.heap[w.heap.size]? = some (.cells #[.int .u8 0, .int .u8 0, .int .u8 0, .int .u8 0, .int .u8 0, .int .u8 0, .int .u8 0, .int .u8 0, .int .u8 0, .int .u8 0, .int .u8 0, .int .u8 0, .int .u8 0, .int .u8 0, .int .u8 0, .int .u8 0, .int .u8 0, .int .u8 0, .int .u8 0, .int .u8 0, .int .u8 0, .int .u8 0, .int .u8 0, .int .u8 0, .int .u8 0, .int .u8 0, .int .u8 0, .int .u8 0, .int .u8 0, .int .u8 0, .int .u8 0, .int .u8 0] 25 (0, 0)) from ⟨H1.out.1.trans (hb6.mono H1.out.1.size), (hb6.block _ (Array.getElem?_eq_some_iff.1 H1.out.2).1).trans H1.out.2⟩)
  obtain ⟨y, hy⟩ : ∃ y, shaH f m = y := ⟨_, rfl⟩
  have HE := Lib.hid hy
  rw [hy]
  clear hb6 hy H1 HFI HR HI73
  have HI : Hid ((Tryd.prog.info? 25).map (·.size) = some (ar .u8 32 y).size) := Lib.hid (by rw [ar_size]; exact info32s)
  go_wp2_with (refine wpList_store_row rfl 25 _ _ rfl w.heap.size (ar .u8 32 y) rfl rfl 25 _ HB.out.2 HI.out (by rw [ar_size]; rfl) (ar_one _ _ _) ?_)
  refine bodyPost_ret (v := .agg (ar .u8 32 y)) (results_cell_row (p := 2) rfl _ _ w.heap.size 25 _ (0, 0) _ rfl (setRow_heap _ _ _ _ _ _ HB.out.2) Tryd.underlying25 rfl HI.out) rfl ⟨by rw [HE.out], below_setRow HB.out.1 (Nat.le_refl _) _⟩
end Go.Proofs.YtkecehcnoihiiaaDoor
namespace Go.Proofs.YtkecehcnoihiiaaDoor
open Go.RowKit

theorem info_partsU {P : Program} {t : TypeId} {z : Value} {s b : Nat} (h : (P.info? t).map (fun i => (i.zero, i.size, i.bytes)) = some (some z, s, b)) : ∃ i, P.info? t = some i ∧ i.zero = some z ∧ i.size = s ∧ i.bytes = b := by
  cases hq : P.info? t with
  | none => rw [hq] at h; cases h
  | some i =>
    rw [hq] at h
    simp at h
    exact ⟨i, rfl, h.1, h.2.1, h.2.2⟩
def prL : List Nat := [2, 3, 5, 7, 11, 13, 17, 19, 23, 29, 31, 37, 41, 43, 47, 53, 59, 61, 67, 71, 73, 79, 83, 89, 97, 101, 103, 107, 109, 113, 127, 131, 137, 139, 149, 151, 157, 163, 167, 173, 179, 181, 191, 193, 197, 199, 211, 223, 227, 229, 233, 239, 241, 251, 257, 263, 269, 271, 277, 281, 283, 293, 307, 311]
def pr (i : Nat) : Nat := prL.getD i 1
/-- How many of them are below p. -/
def cntP (p : Nat) : Nat := (prL.filter (fun q => q < p)).length
/-- None of the first k divides p. -/
def dvP (p k : Nat) : Bool := (List.range k).all (fun i => p % pr i != 0)
set_option maxRecDepth 100000 in
theorem cnt_dec : ∀ p : Fin 312, 2 ≤ (p : Nat) → (dvP p (cntP p) = true → cntP (p + 1) = cntP p + 1 ∧ pr (cntP p) = p) ∧ (dvP p (cntP p) = false → cntP (p + 1) = cntP p) := by decide +kernel
set_option maxRecDepth 100000 in
theorem pr_pos : ∀ i : Fin 64, 2 ≤ pr i ∧ pr i < 312 := by decide +kernel
theorem cnt_312 : cntP 312 = 64 := by decide +kernel
theorem dvP_next (p k : Nat) : dvP p (k + 1) = (dvP p k && (p % pr k != 0)) := by
  unfold dvP
  rw [List.range_succ, List.all_append]
  simp
def pu (f : Nat → Nat) (n : Nat) : List Value := (List.range n).map fun j => .int .u64 (f j : Nat)
theorem pu_len (f : Nat → Nat) (n : Nat) : (pu f n).length = n := by simp [pu]
theorem pu_at (f : Nat → Nat) (n j : Nat) (h : j < n) : (pu f n)[j]? = some (.int .u64 (f j : Nat)) := by simp [pu, h]
theorem pu_snoc (f : Nat → Nat) (n : Nat) (z : Int) (hx : ((f n : Nat) : Int) = z) : pu f n ++ [.int .u64 z] = pu f (n + 1) := by
  rw [← hx]
  unfold pu
  rw [List.range_succ, List.map_append]
  rfl
theorem infoU64 : (Tryd.prog.info? 47).map (fun i => (i.zero, i.size, i.bytes)) = some (some (.int .u64 0), 1, 8) := by kernel_rfl
set_option maxRecDepth 100000 in
set_option maxHeartbeats 4000000 in
-- WHAT Primes COMES TO.
theorem primes_any (n : Nat) (hn : n ≤ 64) (w : World) : Calls Tryd.prog 22 #[.int .i64 n] w fun e w' => ∃ g c, e = .returned (.slice (some ⟨g, 0, none⟩) n c) ∧ w'.ownsRow w.heap.size 47 1 (.slice (some ⟨g, 0, none⟩) n c) n (pu pr n) ∧ Below w.heap.size w w' := by
  obtain ⟨i0, hi, hz0, hz1, hz2⟩ := info_partsU infoU64
  go_enter Tryd.func22, Tryd.ntmps22
  go_wp2_with fail
  go_loopw [3, 4] (fun v x wr => ∃ p c g q : Nat, 2 ≤ p ∧ p ≤ 312 ∧ c ≤ n ∧ cntP p = c ∧ x = .int .u64 p ∧ v = .slice (some ⟨g, 0, none⟩) c q ∧ Hid (wr.ownsRow w.heap.size 47 1 v c (pu pr c) ∧ Below w.heap.size w wr)) (fun _ x _ => 312 - (intOf x).toNat)
  case atStart =>
    refine ⟨2, 0, _, _, by omega, by omega, by omega, by decide +kernel, rfl, rfl, Lib.hid ⟨?_, by go_grown⟩⟩
    have h1 := World.ownsRow_made (base := w.heap.size) (e := 47) (size := 1) w #[] 0 (by simp) (by decide) (by simp)
    simpa [pu] using h1
  case round =>
    obtain ⟨p, c, g, q, hp2, hp3, hcn, hc, rfl, rfl, H⟩ := hrel
    have hc0 : (0 : Int) ≤ c := by omega
    by_cases hlt : c < n
    · have hlt' : (c : Int) < n := by omega
      have hp4 : p < 312 := by
        rcases Nat.lt_or_ge p 312 with h | h
        · exact h
        · have : p = 312 := by omega
          rw [this, cnt_312] at hc
          omega
      have HD := Lib.hid (cnt_dec ⟨p, hp4⟩ hp2)
      have HC := Lib.hid hc
      have HP := Lib.hid (And.intro hp2 (And.intro hp4 (And.intro hcn hlt)))
      have hp0 : (0 : Int) ≤ p := by omega
      clear hc hp3
      go_wp2_with fail
      go_loopw [5, 6] (fun b x wr => ∃ k : Nat, k ≤ c ∧ x = .int .i64 k ∧ b = .bool (dvP p k) ∧ Hid (wr.ownsRow w.heap.size 47 1 (.slice (some ⟨g, 0, none⟩) c q) c (pu pr c) ∧ Below w.heap.size w wr)) (fun _ x _ => c - (intOf x).toNat)
      case atStart => exact ⟨0, by omega, rfl, rfl, H⟩
      case round =>
        obtain ⟨k, hk, rfl, rfl, H2⟩ := hrel
        clear H
        have hk0 : (0 : Int) ≤ k := by omega
        by_cases hkc : k < c
        · have hkc' : (k : Int) < c := by omega
          have HN := Lib.hid (dvP_next p k)
          have ck := (H2.out.1.cellAt k (by omega)).trans (pu_at pr c k hkc)
          have hpr := pr_pos ⟨k, by omega⟩
          obtain ⟨d, hd⟩ : ∃ d, pr k = d := ⟨_, rfl⟩
          have hpr2 : 2 ≤ d ∧ d < 312 := by rw [← hd]; exact hpr
          rw [hd] at HN ck
          have hd0 : (0 : Int) < d := by omega
          have hdne : ((d : Int) == 0) = false := by simp; omega
          obtain ⟨r, hr⟩ : ∃ r, p % d = r := ⟨_, rfl⟩
          have e1 : (p : Int).tmod d = (r : Int) := by rw [Int.tmod_eq_emod_of_nonneg hp0]; omega
          have e2 : (p : Int) % d = (r : Int) := by omega
          rw [hr] at HN
          clear hpr hpr2 hd hr
          obtain ⟨b, hb⟩ : ∃ b, dvP p k = b := ⟨_, rfl⟩
          rw [hb] at HN ⊢
          clear hb
          cases b with
          | false =>
            go_wp2_with fail
            go_roundw
            case rel => exact ⟨k + 1, by omega, by go_num, by rw [HN.out]; rfl, H2⟩
            case measure => simp [intOf]; omega
          | true =>
            by_cases hr0 : r = 0
            · have hre : ((r : Int) != 0) = false := by simp [hr0]
              have HR0 := Lib.hid hr0
              clear hr0
              go_wp2_with fail
              go_roundw
              case rel => exact ⟨k + 1, by omega, by go_num, by rw [HN.out, HR0.out]; rfl, H2⟩
              case measure => simp [intOf]; omega
            · have hre : ((r : Int) != 0) = true := by simp [hr0]
              have HR0 := Lib.hid hr0
              clear hr0
              go_wp2_with fail
              go_roundw
              case rel => exact ⟨k + 1, by omega, by go_num, by rw [HN.out]; simp [HR0.out], H2⟩
              case measure => simp [intOf]; omega
        · obtain rfl : k = c := by omega
          have hkc' : ¬ (k : Int) < k := by omega
          have hbs : w.heap.size ≤ wr.heap.size := H2.out.2.size
          obtain ⟨b, hb⟩ : ∃ b, dvP p k = b := ⟨_, rfl⟩
          have HBB := Lib.hid hb
          rw [hb]
          clear hb
          cases b with
          | false =>
            have hcn : cntP (p + 1) = k := by
              have h1 := HD.out.2
              rw [HC.out] at h1
              exact h1 HBB.out
            have HCN := Lib.hid hcn
            clear hcn
            have hpw : IntKind.u64.wrap ((p : Int) + 1) = (p : Int) + 1 := by rw [IntKind.wrap_u64]; omega
            go_wp2_with fail
            go_roundw
            case rel => exact ⟨p + 1, k, g, q, by omega, by have := HP.out; omega, by have := HP.out; omega, HCN.out, by go_num, rfl, H2⟩
            case measure => simp [intOf]; have := HP.out; omega
          | true =>
            have hcn : cntP (p + 1) = k + 1 ∧ pr k = p := by
              have h1 := HD.out.1
              rw [HC.out] at h1
              exact h1 HBB.out
            have HCN := Lib.hid hcn
            clear hcn
            have hpw : IntKind.u64.wrap ((p : Int) + 1) = (p : Int) + 1 := by rw [IntKind.wrap_u64]; omega
            have hk64 : k ≤ 64 := by have := HP.out; omega
            go_wp2_with (at_builtin; refine wpList_append_lies _ rfl _ _ 54 rfl w.heap.size 47 i0 (.int .u64 0) 1 8 Tryd.underlying54 hi hz0 hz1 hz2 rfl (by decide) _ k (pu pr k) rfl (World.ownsRow.alloc H2.out.1 _) ⟨wr.heap.size, 0, none⟩ 1 1 [.int .u64 p] rfl rfl (cell_one_new _ _ _) (by intro u hu; simp at hu; subst hu; rfl) (by omega) (by unfold maxLen; omega) (by omega) (by simp; omega) (wr.heap.size + 1) (by simp) ?_; intro g2 c2 w3 hown3 hgrow hat hlt3)
            have hb3 : Below w.heap.size w w3 := (H2.out.2.alloc (by omega) _).grown hgrow (by simp; omega) (fun j hj => (H2.out.1.lt j hj).1)
            rw [pu_snoc pr k (p : Int) (by rw [HCN.out.2])] at hown3
            have HQ := Lib.hid (And.intro hown3 hb3)
            clear hgrow hat hlt3 hown3 hb3 H2
            go_roundw
            case rel => exact ⟨p + 1, k + 1, g2, c2, by omega, by have := HP.out; omega, by have := HP.out; omega, HCN.out.1, by go_num, rfl, HQ⟩
            case measure => simp [intOf]; have := HP.out; omega
    · obtain rfl : c = n := by omega
      have hlt' : ¬ (c : Int) < c := by omega
      go_wp2_with fail
      go_ret
      exact ⟨g, q, rfl, H.out⟩
end Go.Proofs.YtkecehcnoihiiaaDoor

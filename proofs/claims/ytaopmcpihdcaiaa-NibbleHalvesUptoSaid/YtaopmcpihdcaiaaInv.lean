/- Regions that draw their order, by an invariant: each operation leaves in its slot a value that a predicate of its own describes, in whatever world of a class it is carried out once those that it waits for have been; what the others left stays described. So a callee may answer memory that it makes, and which memory that is may hang on the order. No program is named here. -/
import Derived.Still
import Derived.WalkKit
namespace Go.Proofs.Ytaopmcpihdcaiaa
open Go.RowKit

/-- What an operation's slot holds. -/
def slotVal (a : Act) (o : Oper) : Value := match o.dst with
  | some d => a.tmps.getD d undef
  | none => undef
def isDst (l : List Oper) (t : Nat) : Bool := l.any fun o => o.dst == some t
/-- Every operation's value put into its slot. -/
def putAll (f : Oper → Value) : List Oper → Act → Act
  | [], a => a
  | o :: l, a => putAll f l (a.put o.dst (f o))

theorem put_size (a : Act) (d : Option Tmp) (v : Value) : (a.put d v).tmps.size = a.tmps.size := by
  cases d <;> simp [Act.put]
theorem put_defers (a : Act) (d : Option Tmp) (v : Value) : (a.put d v).defers = a.defers := by
  cases d <;> rfl
theorem put_other (a : Act) (d : Option Tmp) (v : Value) (t : Nat) (h : d ≠ some t) : (a.put d v).tmps.getD t undef = a.tmps.getD t undef := by
  cases d with
  | none => rfl
  | some d =>
    have : d ≠ t := fun e => h (by rw [e])
    simp [Act.put, Array.getElem?_setIfInBounds_ne this]
theorem put_same (a : Act) (d : Nat) (v : Value) (h : d < a.tmps.size) : (a.put (some d) v).tmps.getD d undef = v := by
  simp [Act.put, h]

theorem putAll_size (f : Oper → Value) : ∀ (l : List Oper) (a : Act), (putAll f l a).tmps.size = a.tmps.size
  | [], _ => rfl
  | o :: l, a => by rw [putAll, putAll_size f l, put_size]
theorem putAll_defers (f : Oper → Value) : ∀ (l : List Oper) (a : Act), (putAll f l a).defers = a.defers
  | [], _ => rfl
  | o :: l, a => by rw [putAll, putAll_defers f l, put_defers]
theorem putAll_at (b : Act) : ∀ (l : List Oper) (a : Act) (t : Nat), t < a.tmps.size → (isDst l t = false → a.tmps.getD t undef = b.tmps.getD t undef) → (putAll (slotVal b) l a).tmps.getD t undef = b.tmps.getD t undef
  | [], a, t, _, h => h rfl
  | o :: l, a, t, ht, h => by
    rw [putAll]
    refine putAll_at b l _ t (by rw [put_size]; exact ht) (fun hl => ?_)
    by_cases e : o.dst = some t
    · rw [e, put_same _ _ _ ht]
      unfold slotVal
      rw [e]
    · rw [put_other _ _ _ _ e]
      exact h (by simp only [isDst, List.any_cons, Bool.or_eq_false_iff]; exact ⟨by simpa using e, hl⟩)
theorem put_back {a a0 : Act} {l : List Oper} (hs : a.tmps.size = a0.tmps.size) (hd : a.defers = a0.defers) (hk : ∀ t, isDst l t = false → a.tmps.getD t undef = a0.tmps.getD t undef) : a = putAll (slotVal a) l a0 := by
  have h1 := putAll_size (slotVal a) l a0
  have h2 := putAll_defers (slotVal a) l a0
  have h3 := fun t ht => putAll_at a l a0 t ht (fun h => (hk t h).symm)
  generalize putAll (slotVal a) l a0 = b at *
  obtain ⟨ta, da⟩ := a
  obtain ⟨tb, db⟩ := b
  simp only at *
  have : ta = tb := by
    apply Array.ext (by omega)
    intro i hi hj
    have := h3 i (by omega)
    simp [hi, hj] at this
    exact this.symm
  rw [this, hd, h2]

section
variable {P : Program} {ops : Array Oper} {Q : Exit → Act → World → Prop} {C : World → Prop} {φ : Nat → Value → World → Prop} {R : World → World → Prop} {a0 : Act}

/-- What is known where an operation comes up: the slots that the region doesn't write; those that it waits for. -/
def Known (ops : Array Oper) (φ : Nat → Value → World → Prop) (a0 : Act) (o : Oper) (a : Act) (w : World) : Prop :=
  (∀ t, isDst ops.toList t = false → a.tmps.getD t undef = a0.tmps.getD t undef) ∧ (∀ e ∈ o.after, Region.binds .any e = true → ∀ oj, ops[e.on]? = some oj → φ e.on (slotVal a oj) w)
/-- What one operation must do. -/
def Step (P : Program) (ops : Array Oper) (Q : Exit → Act → World → Prop) (C : World → Prop) (φ : Nat → Value → World → Prop) (R : World → World → Prop) (k : Nat) (o : Oper) (a : Act) (w : World) : Prop :=
  if Region.wanted o (yielded ops a.tmps) then o.wp P a w (fun a' w' => ∃ v, a' = a.put o.dst v ∧ C w' ∧ φ k v w' ∧ R w w' ∧ (o.dst = none → v = undef)) Q else φ k undef w
def Steps (P : Program) (ops : Array Oper) (Q : Exit → Act → World → Prop) (C : World → Prop) (φ : Nat → Value → World → Prop) (R : World → World → Prop) (a0 : Act) : Nat → List Oper → Prop
  | _, [] => True
  | k, o :: l => (∀ a w, C w → Known ops φ a0 o a w → Step P ops Q C φ R k o a w) ∧ Steps P ops Q C φ R a0 (k + 1) l
theorem Steps.at_ : ∀ {l : List Oper} {k : Nat}, Steps P ops Q C φ R a0 k l → ∀ (i : Nat) (o : Oper), l[i]? = some o → ∀ a w, C w → Known ops φ a0 o a w → Step P ops Q C φ R (k + i) o a w
  | [], _, _, i, o, hi => by simp at hi
  | o :: l, k, h, 0, o', hi => by simp at hi; subst hi; exact h.1
  | o :: l, k, h, i + 1, o', hi => by
    have := Steps.at_ h.2 i o' (by simpa using hi)
    rwa [show k + 1 + i = k + (i + 1) by omega] at this

def distinctB : List Oper → Bool
  | [] => true
  | o :: l => (match o.dst with | some d => !(isDst l d) | none => true) && distinctB l
theorem distinct_spec : ∀ {l : List Oper}, distinctB l = true → ∀ (i j : Nat) (oi oj : Oper) (d : Nat), l[i]? = some oi → l[j]? = some oj → i ≠ j → oi.dst = some d → oj.dst ≠ some d
  | [], _, i, _, _, _, _, hi, _, _, _ => by simp at hi
  | o :: l, h, i, j, oi, oj, d, hi, hj, hne, hd => by
    simp only [distinctB, Bool.and_eq_true] at h
    have out : ∀ (k : Nat) (ok : Oper) (e : Nat), l[k]? = some ok → o.dst = some e → ok.dst ≠ some e := fun k ok e hk he hok => by
      have h1 := h.1
      rw [he] at h1
      simp only [Bool.not_eq_true', isDst, List.any_eq_false] at h1
      exact h1 ok (List.mem_of_getElem? hk) (by simp [hok])
    match i, j, hi, hj with
    | 0, 0, _, _ => exact absurd rfl hne
    | 0, j + 1, hi, hj => simp at hi; subst hi; exact out j oj d (by simpa using hj) hd
    | i + 1, 0, hi, hj => simp at hj; subst hj; exact fun he => out i oi d (by simpa using hi) he hd
    | i + 1, j + 1, hi, hj => exact distinct_spec h.2 i j oi oj d (by simpa using hi) (by simpa using hj) (by omega) hd

def lexicalB (ops : Array Oper) : Bool := (List.range ops.size).all fun i => match ops[i]? with
  | some o => o.after.all fun e => decide (e.on < i)
  | none => true
def inB (ops : Array Oper) (n : Nat) : Bool := ops.toList.all fun o => match o.dst with
  | some d => decide (d < n)
  | none => true

theorem wpAny_inv (hdist : distinctB ops.toList = true) (hlex : lexicalB ops = true) (hin : inB ops a0.tmps.size = true)
    (hφ : ∀ i v w w', R w w' → φ i v w → φ i v w') (hst : Steps P ops Q C φ R a0 0 ops.toList)
    (hQ : ∀ (f : Oper → Value) w, C w → (∀ i o, ops[i]? = some o → φ i (f o) w) → Q .normal (putAll f ops.toList a0) w) :
    ∀ (fuel : Nat) (listed : Array Bool) (a : Act) (w : World), listed.size = ops.size → listed.toList.count false ≤ fuel → C w → a.tmps.size = a0.tmps.size → a.defers = a0.defers →
      (∀ t, isDst ops.toList t = false → a.tmps.getD t undef = a0.tmps.getD t undef) → (∀ i o, listed.getD i false = true → ops[i]? = some o → φ i (slotVal a o) w) → wpAny P .any ops Q fuel listed a w := by
  have done : ∀ (listed : Array Bool) (a : Act) (w : World), (∀ i, i < ops.size → listed.getD i false = true) → C w → a.tmps.size = a0.tmps.size → a.defers = a0.defers →
      (∀ t, isDst ops.toList t = false → a.tmps.getD t undef = a0.tmps.getD t undef) → (∀ i o, listed.getD i false = true → ops[i]? = some o → φ i (slotVal a o) w) → Q .normal a w := by
    intro listed a w hall hC hs hd hk hp
    rw [put_back hs hd hk]
    exact hQ _ w hC (fun i o ho => hp i o (hall i (Array.getElem?_eq_some_iff.1 ho).1) ho)
  intro fuel
  induction fuel with
  | zero =>
    intro listed a w hsz hc hC hs hd hk hp
    have hno : false ∉ listed.toList := List.count_eq_zero.1 (by omega)
    have hall : ∀ i, i < ops.size → listed.getD i false = true := fun i hi => by
      have hlt : i < listed.size := by omega
      have hm : listed[i] ∈ listed.toList := by simp
      simp only [Array.getD_eq_getD_getElem?, hlt, Array.getElem?_eq_getElem, Option.getD_some]
      cases h : listed[i] with
      | true => rfl
      | false => rw [h] at hm; exact absurd hm hno
    refine ⟨?_, done listed a w hall hC hs hd hk hp⟩
    rw [List.eq_nil_iff_forall_not_mem]
    intro j hj
    obtain ⟨h0, o, ho, -⟩ := mem_ready.1 hj
    have hlt := (Array.getElem?_eq_some_iff.1 ho).1
    have h1 := hall j hlt
    simp [show j < listed.size by omega] at h0 h1
    rw [h0] at h1
    cases h1
  | succ fuel ih =>
    intro listed a w hsz hc hC hs hd hk hp
    refine ⟨fun hr => ?_, fun i hi => ?_⟩
    · refine done listed a w ?_ hC hs hd hk hp
      -- the least that isn't listed would be ready
      intro i
      induction i using Nat.strongRecOn with
      | _ i ihi =>
        intro hi
        cases h : listed.getD i false with
        | true => rfl
        | false =>
          have ho : ops[i]? = some ops[i] := Array.getElem?_eq_getElem hi
          have : i ∈ Region.ready .any ops listed := mem_ready.2 ⟨by simpa [show i < listed.size by omega] using h, ops[i], ho, fun e he _ => by
            have hl := hlex
            unfold lexicalB at hl
            rw [List.all_eq_true] at hl
            have := hl i (by simpa using hi)
            rw [ho] at this
            simp only [Array.all_eq_true_iff_forall_mem, decide_eq_true_eq] at this
            have hlt := this e he
            exact ihi e.on hlt (by omega)⟩
          rw [hr] at this
          cases this
    · obtain ⟨h0, o, ho, hall⟩ := mem_ready.1 hi
      have hlt : i < ops.size := (Array.getElem?_eq_some_iff.1 ho).1
      have hl' : ops.toList[i]? = some o := by simpa using ho
      have hstep := hst.at_ i o hl' a w hC ⟨hk, fun e he hb oj hj => hp e.on oj (hall e he hb) hj⟩
      rw [Nat.zero_add] at hstep
      have go : ∀ (v : Value) (w' : World), C w' → φ i v w' → (∀ j u, φ j u w → φ j u w') → (o.dst = none → v = undef) → wpAny P .any ops Q fuel (listed.setIfInBounds i true) (a.put o.dst v) w' := by
        intro v w' hC' hv hm hu
        refine ih _ _ _ (by simpa using hsz) ?_ hC' (by rw [put_size]; exact hs) (by rw [put_defers]; exact hd) ?_ ?_
        · have hil : i < listed.size := by omega
          have e0 : listed[i] = false := by simpa [hil] using h0
          rw [Array.toList_setIfInBounds, List.count_set (by simpa using hil)]
          have : listed.toList[i]'(by simpa using hil) = false := by simpa using e0
          simp only [this]
          simp
          have hpos : 0 < listed.toList.count false := List.count_pos_iff.2 (by rw [← e0]; simp)
          simp at hpos
          simp at hc
          omega
        · intro t ht
          have hne : o.dst ≠ some t := fun e => by
            simp only [isDst, List.any_eq_false] at ht
            exact ht o (List.mem_of_getElem? hl') (by simp [e])
          rw [put_other _ _ _ _ hne]
          exact hk t ht
        · intro j oj hj hoj
          by_cases e : i = j
          · subst e
            have : oj = o := Option.some.inj (hoj.symm.trans ho)
            subst this
            have : slotVal (a.put oj.dst v) oj = v := by
              unfold slotVal
              cases hd' : oj.dst with
              | none => exact (hu hd').symm
              | some d =>
                have hin' := hin
                unfold inB at hin'
                rw [List.all_eq_true] at hin'
                have hdl : d < a0.tmps.size := by
                  have h := hin' oj (List.mem_of_getElem? hl')
                  rw [hd'] at h
                  exact of_decide_eq_true h
                exact put_same _ _ _ (by rw [hs]; exact hdl)
            rw [this]; exact hv
          · rw [getD_set_ne false e] at hj
            have : slotVal (a.put o.dst v) oj = slotVal a oj := by
              unfold slotVal
              cases hd' : oj.dst with
              | none => rfl
              | some d =>
                exact put_other _ _ _ _ (fun he => distinct_spec hdist i j o oj d hl' (by simpa using hoj) e he hd')
            rw [this]
            exact hm _ _ (hp j oj hj hoj)
      unfold wpOp
      rw [ho]
      simp only
      unfold Step at hstep
      split
      · rename_i hw
        rw [if_pos hw] at hstep
        refine .inl (Oper.wp_mono ?_ hstep)
        rintro a' w' ⟨v, rfl, hC', hv, hR, hu⟩
        exact go v w' hC' hv (fun j u h => hφ j u w w' hR h) hu
      · rename_i hw
        rw [if_neg hw] at hstep
        exact go undef w hC hstep (fun j u h => h) (fun _ => rfl)

/-- THE LAW. -/
theorem region_inv {id : Nat} {l : List Oper} {w : World} (C : World → Prop) (φ : Nat → Value → World → Prop) (R : World → World → Prop) (hm : P.follows .mixedOrders = true) (hB : (distinctB l && lexicalB l.toArray && inB l.toArray a0.tmps.size) = true) (hC : C w.drew)
    (hφ : ∀ i v w w', R w w' → φ i v w → φ i v w') (hst : Steps P l.toArray Q C φ R a0 0 l)
    (hQ : ∀ (f : Oper → Value) w, C w → (∀ i o, l[i]? = some o → φ i (f o) w) → Q .normal (putAll f l a0) w) : (Code.region id l.toArray true).wp P Q a0 w := by
  simp only [Bool.and_eq_true] at hB
  refine wp_region_any hm (wpAny_inv (C := C) (φ := φ) (R := R) (a0 := a0) hB.1.1 hB.1.2 hB.2 hφ hst (fun f w hC h => hQ f w hC (fun i o ho => h i o (by simpa using ho))) _ _ _ w.drew (by simp) (by simp) hC rfl rfl (fun _ _ => rfl) ?_)
  intro i o hi
  simp at hi
  rcases Nat.lt_or_ge i l.length with h | h
  · simp [h] at hi
  · simp [Nat.not_lt.2 h] at hi

/-! What each kind of operation must do. -/
theorem st_val {k : Nat} {o : Oper} {a : Act} {w : World} (v : Value) (hw : Region.wanted o (yielded ops a.tmps) = true) (hd : o.dst = none → v = undef) (hr : (execOp a.eval o).run P w = .ok (.value v) w) (hC : C w) (hv : φ k v w) (hR : R w w) : Step P ops Q C φ R k o a w := by
  unfold Step
  rw [if_pos hw]
  unfold Oper.wp
  rw [hr]
  exact ⟨v, rfl, hC, hv, hR, hd⟩
theorem st_skip {k : Nat} {o : Oper} {a : Act} {w : World} (hw : Region.wanted o (yielded ops a.tmps) = false) (hv : φ k undef w) : Step P ops Q C φ R k o a w := by
  unfold Step
  rw [if_neg (by rw [hw]; exact Bool.false_ne_true)]
  exact hv
theorem st_load {k : Nat} {o : Oper} {a : Act} {w : World} (T : TypeId) (x : Operand) (p v : Value) (ho : o.op = .load T x) (hw : Region.wanted o (yielded ops a.tmps) = true) (hd : o.dst = none → v = undef) (hp : a.eval x = p)
    (hr : (Instr.loadAt T p).run P w = .ok v w) (hC : C w) (hv : φ k v w) (hR : R w w) : Step P ops Q C φ R k o a w :=
  st_val v hw hd (by
    unfold execOp
    rw [ho]
    simp only [hp, Sem.run_bind, hr, Result.andThen_ok, Sem.run_pure]) hC hv hR
theorem st_call {k : Nat} {o : Oper} {a : Act} {w : World} (f : FuncId) (args : Array Value) (hw : Region.wanted o (yielded ops a.tmps) = true) (hd : ∃ d, o.dst = some d) (he : (execOp a.eval o).run P w = .ok (.enter f args) w)
    (hc : Calls P f args w fun e w' => ∃ v, e = .returned v ∧ C w' ∧ φ k v w' ∧ R w w') : Step P ops Q C φ R k o a w := by
  unfold Step
  rw [if_pos hw]
  unfold Oper.wp
  rw [he]
  refine Calls.mono hc ?_
  rintro e w' ⟨v, rfl, h1, h2, h3⟩
  exact ⟨v, rfl, h1, h2, h3, fun h => by obtain ⟨d, hd⟩ := hd; rw [hd] at h; cases h⟩
theorem st_store {k : Nat} {o : Oper} {a : Act} {w w' : World} (hw : Region.wanted o (yielded ops a.tmps) = true) (hr : (execOp a.eval o).run P w = .ok .skip w') (hC : C w') (hv : φ k undef w') (hR : R w w') : Step P ops Q C φ R k o a w := by
  unfold Step
  rw [if_pos hw]
  unfold Oper.wp
  rw [hr]
  exact ⟨undef, rfl, hC, hv, hR, fun _ => rfl⟩
end
end Go.Proofs.Ytaopmcpihdcaiaa

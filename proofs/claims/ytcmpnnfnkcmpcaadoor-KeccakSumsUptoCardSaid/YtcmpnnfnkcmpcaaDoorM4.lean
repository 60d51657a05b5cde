/- What the two laws of layer 3 stand on. (With it, merged: Inv · Tie0 · Tie1 · Many · KHelp · KOpenU · KRSum · KBase.) -/
import Derived.Still
import Derived.WalkKit
import Derived.StillTail
import Derived.Laws.CopyOwn
import Derived.Test.YtcmpnnfnkcmpcaaDoorM3
import Derived.Test.YtcmpnnfnkcmpcaaDoorM1
import Derived.Laws.Append
import Derived.Deep.AppendLies
import Derived.Laws.AppendOwnNone
namespace Go.Proofs.YtcmpnnfnkcmpcaaDoor
open Go.RowKit

/-- What an operation's slot holds. -/
def slotVal (a : Act) (o : Oper) : Value := match o.dst with
  | some d => a.tmps.getD d undef
  | none => undef
def isDst (l : List Oper) (t : Nat) : Bool := l.any fun o => o.dst == some t
/-- Every operation's value put into its slot. -/
def putAll (f : Oper → Value) : List Oper → Act → Act
  | [], a => a
  | o :: l, a => putAll f l (a.put o.dst (f o))

theorem put_size (a : Act) (d : Option Tmp) (v : Value) : (a.put d v).tmps.size = a.tmps.size := by
  cases d <;> simp [Act.put]
theorem put_defers (a : Act) (d : Option Tmp) (v : Value) : (a.put d v).defers = a.defers := by
  cases d <;> rfl
theorem put_other (a : Act) (d : Option Tmp) (v : Value) (t : Nat) (h : d ≠ some t) : (a.put d v).tmps.getD t undef = a.tmps.getD t undef := by
  cases d with
  | none => rfl
  | some d =>
    have : d ≠ t := fun e => h (by rw [e])
    simp [Act.put, Array.getElem?_setIfInBounds_ne this]
theorem put_same (a : Act) (d : Nat) (v : Value) (h : d < a.tmps.size) : (a.put (some d) v).tmps.getD d undef = v := by
  simp [Act.put, h]

theorem putAll_size (f : Oper → Value) : ∀ (l : List Oper) (a : Act), (putAll f l a).tmps.size = a.tmps.size
  | [], _ => rfl
  | o :: l, a => by rw [putAll, putAll_size f l, put_size]
theorem putAll_defers (f : Oper → Value) : ∀ (l : List Oper) (a : Act), (putAll f l a).defers = a.defers
  | [], _ => rfl
  | o :: l, a => by rw [putAll, putAll_defers f l, put_defers]
theorem putAll_at (b : Act) : ∀ (l : List Oper) (a : Act) (t : Nat), t < a.tmps.size → (isDst l t = false → a.tmps.getD t undef = b.tmps.getD t undef) → (putAll (slotVal b) l a).tmps.getD t undef = b.tmps.getD t undef
  | [], a, t, _, h => h rfl
  | o :: l, a, t, ht, h => by
    rw [putAll]
    refine putAll_at b l _ t (by rw [put_size]; exact ht) (fun hl => ?_)
    by_cases e : o.dst = some t
    · rw [e, put_same _ _ _ ht]
      unfold slotVal
      rw [e]
    · rw [put_other _ _ _ _ e]
      exact h (by simp only [isDst, List.any_cons, Bool.or_eq_false_iff]; exact ⟨by simpa using e, hl⟩)
theorem put_back {a a0 : Act} {l : List Oper} (hs : a.tmps.size = a0.tmps.size) (hd : a.defers = a0.defers) (hk : ∀ t, isDst l t = false → a.tmps.getD t undef = a0.tmps.getD t undef) : a = putAll (slotVal a) l a0 := by
  have h1 := putAll_size (slotVal a) l a0
  have h2 := putAll_defers (slotVal a) l a0
  have h3 := fun t ht => putAll_at a l a0 t ht (fun h => (hk t h).symm)
  generalize putAll (slotVal a) l a0 = b at *
  obtain ⟨ta, da⟩ := a
  obtain ⟨tb, db⟩ := b
  simp only at *
  have : ta = tb := by
    apply Array.ext (by omega)
    intro i hi hj
    have := h3 i (by omega)
    simp [hi, hj] at this
    exact this.symm
  rw [this, hd, h2]

section
variable {P : Program} {ops : Array Oper} {Q : Exit → Act → World → Prop} {C : World → Prop} {φ : Nat → Value → World → Prop} {R : World → World → Prop} {a0 : Act}

/-- What is known where an operation comes up: the slots that the region doesn't write; those that it waits for. -/
def Known (ops : Array Oper) (φ : Nat → Value → World → Prop) (a0 : Act) (o : Oper) (a : Act) (w : World) : Prop :=
  (∀ t, isDst ops.toList t = false → a.tmps.getD t undef = a0.tmps.getD t undef) ∧ (∀ e ∈ o.after, Region.binds .any e = true → ∀ oj, ops[e.on]? = some oj → φ e.on (slotVal a oj) w)
/-- What one operation must do. -/
def Step (P : Program) (ops : Array Oper) (Q : Exit → Act → World → Prop) (C : World → Prop) (φ : Nat → Value → World → Prop) (R : World → World → Prop) (k : Nat) (o : Oper) (a : Act) (w : World) : Prop :=
  if Region.wanted o (yielded ops a.tmps) then o.wp P a w (fun a' w' => ∃ v, a' = a.put o.dst v ∧ C w' ∧ φ k v w' ∧ R w w' ∧ (o.dst = none → v = undef)) Q else φ k undef w
def Steps (P : Program) (ops : Array Oper) (Q : Exit → Act → World → Prop) (C : World → Prop) (φ : Nat → Value → World → Prop) (R : World → World → Prop) (a0 : Act) : Nat → List Oper → Prop
  | _, [] => True
  | k, o :: l => (∀ a w, C w → Known ops φ a0 o a w → Step P ops Q C φ R k o a w) ∧ Steps P ops Q C φ R a0 (k + 1) l
theorem Steps.at_ : ∀ {l : List Oper} {k : Nat}, Steps P ops Q C φ R a0 k l → ∀ (i : Nat) (o : Oper), l[i]? = some o → ∀ a w, C w → Known ops φ a0 o a w → Step P ops Q C φ R (k + i) o a w
  | [], _, _, i, o, hi => by simp at hi
  | o :: l, k, h, 0, o', hi => by simp at hi; subst hi; exact h.1
  | o :: l, k, h, i + 1, o', hi => by
    have := Steps.at_ h.2 i o' (by simpa using hi)
    rwa [show k + 1 + i = k + (i + 1) by omega] at this

def distinctB : List Oper → Bool
  | [] => true
  | o :: l => (match o.dst with | some d => !(isDst l d) | none => true) && distinctB l
theorem distinct_spec : ∀ {l : List Oper}, distinctB l = true → ∀ (i j : Nat) (oi oj : Oper) (d : Nat), l[i]? = some oi → l[j]? = some oj → i ≠ j → oi.dst = some d → oj.dst ≠ some d
  | [], _, i, _, _, _, _, hi, _, _, _ => by simp at hi
  | o :: l, h, i, j, oi, oj, d, hi, hj, hne, hd => by
    simp only [distinctB, Bool.and_eq_true] at h
    have out : ∀ (k : Nat) (ok : Oper) (e : Nat), l[k]? = some ok → o.dst = some e → ok.dst ≠ some e := fun k ok e hk he hok => by
      have h1 := h.1
      rw [he] at h1
      simp only [Bool.not_eq_true', isDst, List.any_eq_false] at h1
      exact h1 ok (List.mem_of_getElem? hk) (by simp [hok])
    match i, j, hi, hj with
    | 0, 0, _, _ => exact absurd rfl hne
    | 0, j + 1, hi, hj => simp at hi; subst hi; exact out j oj d (by simpa using hj) hd
    | i + 1, 0, hi, hj => simp at hj; subst hj; exact fun he => out i oi d (by simpa using hi) he hd
    | i + 1, j + 1, hi, hj => exact distinct_spec h.2 i j oi oj d (by simpa using hi) (by simpa using hj) (by omega) hd

def lexicalB (ops : Array Oper) : Bool := (List.range ops.size).all fun i => match ops[i]? with
  | some o => o.after.all fun e => decide (e.on < i)
  | none => true
def inB (ops : Array Oper) (n : Nat) : Bool := ops.toList.all fun o => match o.dst with
  | some d => decide (d < n)
  | none => true

theorem wpAny_inv (hdist : distinctB ops.toList = true) (hlex : lexicalB ops = true) (hin : inB ops a0.tmps.size = true)
    (hφ : ∀ i v w w', R w w' → φ i v w → φ i v w') (hst : Steps P ops Q C φ R a0 0 ops.toList)
    (hQ : ∀ (f : Oper → Value) w, C w → (∀ i o, ops[i]? = some o → φ i (f o) w) → Q .normal (putAll f ops.toList a0) w) :
    ∀ (fuel : Nat) (listed : Array Bool) (a : Act) (w : World), listed.size = ops.size → listed.toList.count false ≤ fuel → C w → a.tmps.size = a0.tmps.size → a.defers = a0.defers →
      (∀ t, isDst ops.toList t = false → a.tmps.getD t undef = a0.tmps.getD t undef) → (∀ i o, listed.getD i false = true → ops[i]? = some o → φ i (slotVal a o) w) → wpAny P .any ops Q fuel listed a w := by
  have done : ∀ (listed : Array Bool) (a : Act) (w : World), (∀ i, i < ops.size → listed.getD i false = true) → C w → a.tmps.size = a0.tmps.size → a.defers = a0.defers →
      (∀ t, isDst ops.toList t = false → a.tmps.getD t undef = a0.tmps.getD t undef) → (∀ i o, listed.getD i false = true → ops[i]? = some o → φ i (slotVal a o) w) → Q .normal a w := by
    intro listed a w hall hC hs hd hk hp
    rw [put_back hs hd hk]
    exact hQ _ w hC (fun i o ho => hp i o (hall i (Array.getElem?_eq_some_iff.1 ho).1) ho)
  intro fuel
  induction fuel with
  | zero =>
    intro listed a w hsz hc hC hs hd hk hp
    have hno : false ∉ listed.toList := List.count_eq_zero.1 (by omega)
    have hall : ∀ i, i < ops.size → listed.getD i false = true := fun i hi => by
      have hlt : i < listed.size := by omega
      have hm : listed[i] ∈ listed.toList := by simp
      simp only [Array.getD_eq_getD_getElem?, hlt, Array.getElem?_eq_getElem, Option.getD_some]
      cases h : listed[i] with
      | true => rfl
      | false => rw [h] at hm; exact absurd hm hno
    refine ⟨?_, done listed a w hall hC hs hd hk hp⟩
    rw [List.eq_nil_iff_forall_not_mem]
    intro j hj
    obtain ⟨h0, o, ho, -⟩ := mem_ready.1 hj
    have hlt := (Array.getElem?_eq_some_iff.1 ho).1
    have h1 := hall j hlt
    simp [show j < listed.size by omega] at h0 h1
    rw [h0] at h1
    cases h1
  | succ fuel ih =>
    intro listed a w hsz hc hC hs hd hk hp
    refine ⟨fun hr => ?_, fun i hi => ?_⟩
    · refine done listed a w ?_ hC hs hd hk hp
      -- the least that isn't listed would be ready
      intro i
      induction i using Nat.strongRecOn with
      | _ i ihi =>
        intro hi
        cases h : listed.getD i false with
        | true => rfl
        | false =>
          have ho : ops[i]? = some ops[i] := Array.getElem?_eq_getElem hi
          have : i ∈ Region.ready .any ops listed := mem_ready.2 ⟨by simpa [show i < listed.size by omega] using h, ops[i], ho, fun e he _ => by
            have hl := hlex
            unfold lexicalB at hl
            rw [List.all_eq_true] at hl
            have := hl i (by simpa using hi)
            rw [ho] at this
            simp only [Array.all_eq_true_iff_forall_mem, decide_eq_true_eq] at this
            have hlt := this e he
            exact ihi e.on hlt (by omega)⟩
          rw [hr] at this
          cases this
    · obtain ⟨h0, o, ho, hall⟩ := mem_ready.1 hi
      have hlt : i < ops.size := (Array.getElem?_eq_some_iff.1 ho).1
      have hl' : ops.toList[i]? = some o := by simpa using ho
      have hstep := hst.at_ i o hl' a w hC ⟨hk, fun e he hb oj hj => hp e.on oj (hall e he hb) hj⟩
      rw [Nat.zero_add] at hstep
      have go : ∀ (v : Value) (w' : World), C w' → φ i v w' → (∀ j u, φ j u w → φ j u w') → (o.dst = none → v = undef) → wpAny P .any ops Q fuel (listed.setIfInBounds i true) (a.put o.dst v) w' := by
        intro v w' hC' hv hm hu
        refine ih _ _ _ (by simpa using hsz) ?_ hC' (by rw [put_size]; exact hs) (by rw [put_defers]; exact hd) ?_ ?_
        · have hil : i < listed.size := by omega
          have e0 : listed[i] = false := by simpa [hil] using h0
          rw [Array.toList_setIfInBounds, List.count_set (by simpa using hil)]
          have : listed.toList[i]'(by simpa using hil) = false := by simpa using e0
          simp only [this]
          simp
          have hpos : 0 < listed.toList.count false := List.count_pos_iff.2 (by rw [← e0]; simp)
          simp at hpos
          simp at hc
          omega
        · intro t ht
          have hne : o.dst ≠ some t := fun e => by
            simp only [isDst, List.any_eq_false] at ht
            exact ht o (List.mem_of_getElem? hl') (by simp [e])
          rw [put_other _ _ _ _ hne]
          exact hk t ht
        · intro j oj hj hoj
          by_cases e : i = j
          · subst e
            have : oj = o := Option.some.inj (hoj.symm.trans ho)
            subst this
            have : slotVal (a.put oj.dst v) oj = v := by
              unfold slotVal
              cases hd' : oj.dst with
              | none => exact (hu hd').symm
              | some d =>
                have hin' := hin
                unfold inB at hin'
                rw [List.all_eq_true] at hin'
                have hdl : d < a0.tmps.size := by
                  have h := hin' oj (List.mem_of_getElem? hl')
                  rw [hd'] at h
                  exact of_decide_eq_true h
                exact put_same _ _ _ (by rw [hs]; exact hdl)
            rw [this]; exact hv
          · rw [getD_set_ne false e] at hj
            have : slotVal (a.put o.dst v) oj = slotVal a oj := by
              unfold slotVal
              cases hd' : oj.dst with
              | none => rfl
              | some d =>
                exact put_other _ _ _ _ (fun he => distinct_spec hdist i j o oj d hl' (by simpa using hoj) e he hd')
            rw [this]
            exact hm _ _ (hp j oj hj hoj)
      unfold wpOp
      rw [ho]
      simp only
      unfold Step at hstep
      split
      · rename_i hw
        rw [if_pos hw] at hstep
        refine .inl (Oper.wp_mono ?_ hstep)
        rintro a' w' ⟨v, rfl, hC', hv, hR, hu⟩
        exact go v w' hC' hv (fun j u h => hφ j u w w' hR h) hu
      · rename_i hw
        rw [if_neg hw] at hstep
        exact go undef w hC hstep (fun j u h => h) (fun _ => rfl)

/-- THE LAW. -/
theorem region_inv {id : Nat} {l : List Oper} {w : World} (C : World → Prop) (φ : Nat → Value → World → Prop) (R : World → World → Prop) (hm : P.follows .mixedOrders = true) (hB : (distinctB l && lexicalB l.toArray && inB l.toArray a0.tmps.size) = true) (hC : C w.drew)
    (hφ : ∀ i v w w', R w w' → φ i v w → φ i v w') (hst : Steps P l.toArray Q C φ R a0 0 l)
    (hQ : ∀ (f : Oper → Value) w, C w → (∀ i o, l[i]? = some o → φ i (f o) w) → Q .normal (putAll f l a0) w) : (Code.region id l.toArray true).wp P Q a0 w := by
  simp only [Bool.and_eq_true] at hB
  refine wp_region_any hm (wpAny_inv (C := C) (φ := φ) (R := R) (a0 := a0) hB.1.1 hB.1.2 hB.2 hφ hst (fun f w hC h => hQ f w hC (fun i o ho => h i o (by simpa using ho))) _ _ _ w.drew (by simp) (by simp) hC rfl rfl (fun _ _ => rfl) ?_)
  intro i o hi
  simp at hi
  rcases Nat.lt_or_ge i l.length with h | h
  · simp [h] at hi
  · simp [Nat.not_lt.2 h] at hi

/-! What each kind of operation must do. -/
theorem st_val {k : Nat} {o : Oper} {a : Act} {w : World} (v : Value) (hw : Region.wanted o (yielded ops a.tmps) = true) (hd : o.dst = none → v = undef) (hr : (execOp a.eval o).run P w = .ok (.value v) w) (hC : C w) (hv : φ k v w) (hR : R w w) : Step P ops Q C φ R k o a w := by
  unfold Step
  rw [if_pos hw]
  unfold Oper.wp
  rw [hr]
  exact ⟨v, rfl, hC, hv, hR, hd⟩
theorem st_skip {k : Nat} {o : Oper} {a : Act} {w : World} (hw : Region.wanted o (yielded ops a.tmps) = false) (hv : φ k undef w) : Step P ops Q C φ R k o a w := by
  unfold Step
  rw [if_neg (by rw [hw]; exact Bool.false_ne_true)]
  exact hv
theorem st_load {k : Nat} {o : Oper} {a : Act} {w : World} (T : TypeId) (x : Operand) (p v : Value) (ho : o.op = .load T x) (hw : Region.wanted o (yielded ops a.tmps) = true) (hd : o.dst = none → v = undef) (hp : a.eval x = p)
    (hr : (Instr.loadAt T p).run P w = .ok v w) (hC : C w) (hv : φ k v w) (hR : R w w) : Step P ops Q C φ R k o a w :=
  st_val v hw hd (by
    unfold execOp
    rw [ho]
    simp only [hp, Sem.run_bind, hr, Result.andThen_ok, Sem.run_pure]) hC hv hR
theorem st_call {k : Nat} {o : Oper} {a : Act} {w : World} (f : FuncId) (args : Array Value) (hw : Region.wanted o (yielded ops a.tmps) = true) (hd : ∃ d, o.dst = some d) (he : (execOp a.eval o).run P w = .ok (.enter f args) w)
    (hc : Calls P f args w fun e w' => ∃ v, e = .returned v ∧ C w' ∧ φ k v w' ∧ R w w') : Step P ops Q C φ R k o a w := by
  unfold Step
  rw [if_pos hw]
  unfold Oper.wp
  rw [he]
  refine Calls.mono hc ?_
  rintro e w' ⟨v, rfl, h1, h2, h3⟩
  exact ⟨v, rfl, h1, h2, h3, fun h => by obtain ⟨d, hd⟩ := hd; rw [hd] at h; cases h⟩
theorem st_store {k : Nat} {o : Oper} {a : Act} {w w' : World} (hw : Region.wanted o (yielded ops a.tmps) = true) (hr : (execOp a.eval o).run P w = .ok .skip w') (hC : C w') (hv : φ k undef w') (hR : R w w') : Step P ops Q C φ R k o a w := by
  unfold Step
  rw [if_pos hw]
  unfold Oper.wp
  rw [hr]
  exact ⟨undef, rfl, hC, hv, hR, fun _ => rfl⟩
end
end Go.Proofs.YtcmpnnfnkcmpcaaDoor
namespace Go.Proofs.YtcmpnnfnkcmpcaaDoor
open Go.RowKit

def slots (a : Act) (t : Nat) : Value := a.tmps.getD t undef

theorem getD_set_same {listed : Array Bool} {i : Nat} (h : i < listed.size) : (listed.setIfInBounds i true).getD i false = true := by simp [h]

section
variable {P : Program} {ops : Array Oper} {Q : Exit → Act → World → Prop} {C : World → Prop} {φ : Nat → (Nat → Value) → World → Prop} {R : World → World → Prop} {a0 : Act}

/-- What is known where an operation comes up. -/
def KnownT (ops : Array Oper) (φ : Nat → (Nat → Value) → World → Prop) (a0 : Act) (o : Oper) (a : Act) (w : World) : Prop :=
  (∀ t, isDst ops.toList t = false → a.tmps.getD t undef = a0.tmps.getD t undef) ∧ (∀ e ∈ o.after, Region.binds .any e = true → ∀ oj, ops[e.on]? = some oj → φ e.on (slots a) w)
def StepT (P : Program) (ops : Array Oper) (Q : Exit → Act → World → Prop) (C : World → Prop) (φ : Nat → (Nat → Value) → World → Prop) (R : World → World → Prop) (k : Nat) (o : Oper) (a : Act) (w : World) : Prop :=
  if Region.wanted o (yielded ops a.tmps) then o.wp P a w (fun a' w' => ∃ v, a' = a.put o.dst v ∧ C w' ∧ φ k (slots (a.put o.dst v)) w' ∧ R w w') Q else φ k (slots (a.put o.dst undef)) w
def StepsT (P : Program) (ops : Array Oper) (Q : Exit → Act → World → Prop) (C : World → Prop) (φ : Nat → (Nat → Value) → World → Prop) (R : World → World → Prop) (a0 : Act) : Nat → List Oper → Prop
  | _, [] => True
  | k, o :: l => (∀ a w, C w → a.tmps.size = a0.tmps.size → KnownT ops φ a0 o a w → StepT P ops Q C φ R k o a w) ∧ StepsT P ops Q C φ R a0 (k + 1) l
theorem StepsT.at_ : ∀ {l : List Oper} {k : Nat}, StepsT P ops Q C φ R a0 k l → ∀ (i : Nat) (o : Oper), l[i]? = some o → ∀ a w, C w → a.tmps.size = a0.tmps.size → KnownT ops φ a0 o a w → StepT P ops Q C φ R (k + i) o a w
  | [], _, _, i, o, hi => by simp at hi
  | o :: l, k, h, 0, o', hi => by simp at hi; subst hi; exact h.1
  | o :: l, k, h, i + 1, o', hi => by
    have := StepsT.at_ h.2 i o' (by simpa using hi)
    rwa [show k + 1 + i = k + (i + 1) by omega] at this

/-- There is a rank by which each operation stands behind those that it waits for. -/
def rankB (ops : Array Oper) (rk : Nat → Nat) : Bool := (List.range ops.size).all fun i => match ops[i]? with
  | some o => o.after.all fun e => !Region.binds .any e || decide (rk e.on < rk i)
  | none => true

def insideB (ops : Array Oper) : Bool := ops.all fun o => o.after.all fun e => decide (e.on < ops.size)
theorem inside_spec (h : insideB ops = true) (i : Nat) (o : Oper) (ho : ops[i]? = some o) (e : Edge) (he : e ∈ o.after) : e.on < ops.size := by
  unfold insideB at h
  simp only [Array.all_eq_true_iff_forall_mem, decide_eq_true_eq] at h
  exact h o (Array.mem_of_getElem? ho) e he

/-- Each operation's slots are its own and those of operations that it waits for. -/
def ownB (ops : Array Oper) (rd : Nat → List Nat) : Bool := (List.range ops.size).all fun i => match ops[i]? with
  | some o => (rd i).all fun t => o.dst == some t || !isDst ops.toList t || o.after.any fun e => Region.binds .any e && (match ops[e.on]? with | some oj => oj.dst == some t | none => false)
  | none => true
theorem own_spec {rd : Nat → List Nat} (h : ownB ops rd = true) {i : Nat} {o : Oper} (ho : ops[i]? = some o) {t : Nat} (ht : t ∈ rd i) :
    o.dst = some t ∨ isDst ops.toList t = false ∨ ∃ e ∈ o.after, Region.binds .any e = true ∧ ∃ oj, ops[e.on]? = some oj ∧ oj.dst = some t := by
  unfold ownB at h
  rw [List.all_eq_true] at h
  have h1 := h i (by simpa using (Array.getElem?_eq_some_iff.1 ho).1)
  rw [ho] at h1
  simp only [List.all_eq_true] at h1
  have h2 := h1 t ht
  simp only [Bool.or_eq_true, beq_iff_eq, Bool.not_eq_true'] at h2
  rcases h2 with (h2 | h2) | h2
  · exact .inl h2
  · exact .inr (.inl h2)
  · refine .inr (.inr ?_)
    rw [Array.any_eq_true] at h2
    obtain ⟨k, hk, h3⟩ := h2
    have he : o.after[k] ∈ o.after := Array.getElem_mem hk
    generalize o.after[k] = e at *
    rw [Bool.and_eq_true] at h3
    refine ⟨e, he, h3.1, ?_⟩
    have h4 := h3.2
    cases hj : ops[e.on]? with
    | none => rw [hj] at h4; cases h4
    | some oj => rw [hj] at h4; exact ⟨oj, rfl, by simpa using h4⟩

theorem wpAny_tie (rd : Nat → List Nat) (rk : Nat → Nat) (hdist : distinctB ops.toList = true) (hlex : rankB ops rk = true) (hon : ∀ (i : Nat) (o : Oper), ops[i]? = some o → ∀ e ∈ o.after, e.on < ops.size) (hown : ownB ops rd = true)
    (hrd : ∀ i s s' w, (∀ t ∈ rd i, s t = s' t) → φ i s w → φ i s' w)
    (hφ : ∀ i v w w', R w w' → φ i v w → φ i v w') (hst : StepsT P ops Q C φ R a0 0 ops.toList)
    (hQ : ∀ (f : Oper → Value) w, C w → (∀ i o, ops[i]? = some o → φ i (slots (putAll f ops.toList a0)) w) → Q .normal (putAll f ops.toList a0) w) :
    ∀ (fuel : Nat) (listed : Array Bool) (a : Act) (w : World), listed.size = ops.size → listed.toList.count false ≤ fuel → C w → a.tmps.size = a0.tmps.size → a.defers = a0.defers →
      (∀ t, isDst ops.toList t = false → a.tmps.getD t undef = a0.tmps.getD t undef) → (∀ i o, listed.getD i false = true → ops[i]? = some o → φ i (slots a) w ∧ ∀ e ∈ o.after, Region.binds .any e = true → listed.getD e.on false = true) → wpAny P .any ops Q fuel listed a w := by
  have done : ∀ (listed : Array Bool) (a : Act) (w : World), (∀ i, i < ops.size → listed.getD i false = true) → C w → a.tmps.size = a0.tmps.size → a.defers = a0.defers →
      (∀ t, isDst ops.toList t = false → a.tmps.getD t undef = a0.tmps.getD t undef) → (∀ i o, listed.getD i false = true → ops[i]? = some o → φ i (slots a) w ∧ ∀ e ∈ o.after, Region.binds .any e = true → listed.getD e.on false = true) → Q .normal a w := by
    intro listed a w hall hC hs hd hk hp
    have hb := put_back hs hd hk
    rw [hb]
    exact hQ _ w hC (fun i o ho => by rw [← hb]; exact (hp i o (hall i (Array.getElem?_eq_some_iff.1 ho).1) ho).1)
  intro fuel
  induction fuel with
  | zero =>
    intro listed a w hsz hc hC hs hd hk hp
    have hno : false ∉ listed.toList := List.count_eq_zero.1 (by omega)
    have hall : ∀ i, i < ops.size → listed.getD i false = true := fun i hi => by
      have hlt : i < listed.size := by omega
      have hm : listed[i] ∈ listed.toList := by simp
      simp only [Array.getD_eq_getD_getElem?, hlt, Array.getElem?_eq_getElem, Option.getD_some]
      cases h : listed[i] with
      | true => rfl
      | false => rw [h] at hm; exact absurd hm hno
    refine ⟨?_, done listed a w hall hC hs hd hk hp⟩
    rw [List.eq_nil_iff_forall_not_mem]
    intro j hj
    obtain ⟨h0, o, ho, -⟩ := mem_ready.1 hj
    have hlt := (Array.getElem?_eq_some_iff.1 ho).1
    have h1 := hall j hlt
    simp [show j < listed.size by omega] at h0 h1
    rw [h0] at h1
    cases h1
  | succ fuel ih =>
    intro listed a w hsz hc hC hs hd hk hp
    refine ⟨fun hr => ?_, fun i hi => ?_⟩
    · refine done listed a w ?_ hC hs hd hk hp
      -- the least that isn't listed would be ready
      have key : ∀ r i, rk i < r → i < ops.size → listed.getD i false = true := by
        intro r
        induction r with
        | zero => intro i h; omega
        | succ r ihr =>
          intro i hri hi
          cases h : listed.getD i false with
          | true => rfl
          | false =>
            have ho : ops[i]? = some ops[i] := Array.getElem?_eq_getElem hi
            have : i ∈ Region.ready .any ops listed := mem_ready.2 ⟨by simpa [show i < listed.size by omega] using h, ops[i], ho, fun e he hb => by
              have hl := hlex
              unfold rankB at hl
              rw [List.all_eq_true] at hl
              have := hl i (by simpa using hi)
              rw [ho] at this
              simp only [Array.all_eq_true_iff_forall_mem] at this
              have hlt := this e he
              rw [hb] at hlt
              simp at hlt
              exact ihr e.on (by omega) (hon i _ ho e he)⟩
            rw [hr] at this
            cases this
      exact fun i hi => key (rk i + 1) i (by omega) hi
    · obtain ⟨h0, o, ho, hall⟩ := mem_ready.1 hi
      have hlt : i < ops.size := (Array.getElem?_eq_some_iff.1 ho).1
      have hl' : ops.toList[i]? = some o := by simpa using ho
      have hstep := hst.at_ i o hl' a w hC hs ⟨hk, fun e he hb oj hj => (hp e.on oj (by have := hall e he hb; simpa using this) hj).1⟩
      rw [Nat.zero_add] at hstep
      have go : ∀ (v : Value) (w' : World), C w' → φ i (slots (a.put o.dst v)) w' → (∀ j u, φ j u w → φ j u w') → wpAny P .any ops Q fuel (listed.setIfInBounds i true) (a.put o.dst v) w' := by
        intro v w' hC' hv hm
        refine ih _ _ _ (by simpa using hsz) ?_ hC' (by rw [put_size]; exact hs) (by rw [put_defers]; exact hd) ?_ ?_
        · have hil : i < listed.size := by omega
          have e0 : listed[i] = false := by simpa [hil] using h0
          rw [Array.toList_setIfInBounds, List.count_set (by simpa using hil)]
          have : listed.toList[i]'(by simpa using hil) = false := by simpa using e0
          simp only [this]
          simp
          have hpos : 0 < listed.toList.count false := List.count_pos_iff.2 (by rw [← e0]; simp)
          simp at hpos
          simp at hc
          omega
        · intro t ht
          have hne : o.dst ≠ some t := fun e => by
            simp only [isDst, List.any_eq_false] at ht
            exact ht o (List.mem_of_getElem? hl') (by simp [e])
          rw [put_other _ _ _ _ hne]
          exact hk t ht
        · intro j oj hj hoj
          by_cases e : i = j
          · subst e
            have : oj = o := Option.some.inj (hoj.symm.trans ho)
            subst this
            refine ⟨hv, fun e he hb => ?_⟩
            have h1 := hall e he hb
            by_cases q : i = e.on
            · rw [← q]; exact getD_set_same (by omega)
            · rw [getD_set_ne false q]; simpa using h1
          · rw [getD_set_ne false e] at hj
            obtain ⟨h1, h2⟩ := hp j oj hj hoj
            refine ⟨hm _ _ (hrd j _ _ w (fun t ht => ?_) h1), fun e' he hb => ?_⟩
            · have hne : o.dst ≠ some t := fun hd' => by
                rcases own_spec hown hoj ht with h3 | h3 | ⟨e', he, hb, ok, hok, hkd⟩
                · exact distinct_spec hdist i j o oj t hl' (by simpa using hoj) e hd' h3
                · simp only [isDst, List.any_eq_false] at h3
                  exact h3 o (List.mem_of_getElem? hl') (by simp [hd'])
                · have h4 := h2 e' he hb
                  have h5 : i ≠ e'.on := fun q => by rw [← q, getD_both h0] at h4; cases h4
                  exact distinct_spec hdist i e'.on o ok t hl' (by simpa using hok) h5 hd' hkd
              exact (put_other _ _ _ _ hne).symm
            · by_cases q : i = e'.on
              · rw [← q]; exact getD_set_same (by omega)
              · rw [getD_set_ne false q]; exact h2 e' he hb
      unfold wpOp
      rw [ho]
      simp only
      unfold StepT at hstep
      split
      · rename_i hw
        rw [if_pos hw] at hstep
        refine .inl (Oper.wp_mono ?_ hstep)
        rintro a' w' ⟨v, rfl, hC', hv, hR⟩
        exact go v w' hC' hv (fun j u h => hφ j u w w' hR h)
      · rename_i hw
        rw [if_neg hw] at hstep
        exact go undef w hC hstep (fun j u h => h)

/-- THE LAW. -/
theorem region_tie {id : Nat} {l : List Oper} {w : World} (C : World → Prop) (φ : Nat → (Nat → Value) → World → Prop) (R : World → World → Prop) (rd : Nat → List Nat) (rk : Nat → Nat) (hm : P.follows .mixedOrders = true)
    (hB : (distinctB l && rankB l.toArray rk && ownB l.toArray rd && insideB l.toArray) = true) (hC : C w.drew)
    (hrd : ∀ i s s' w, (∀ t ∈ rd i, s t = s' t) → φ i s w → φ i s' w) (hφ : ∀ i v w w', R w w' → φ i v w → φ i v w') (hst : StepsT P l.toArray Q C φ R a0 0 l)
    (hQ : ∀ (f : Oper → Value) w, C w → (∀ i o, l[i]? = some o → φ i (slots (putAll f l a0)) w) → Q .normal (putAll f l a0) w) : (Code.region id l.toArray true).wp P Q a0 w := by
  simp only [Bool.and_eq_true] at hB
  refine wp_region_any hm (wpAny_tie (C := C) (φ := φ) (R := R) (a0 := a0) rd rk hB.1.1.1 hB.1.1.2 (inside_spec hB.2) hB.1.2 hrd hφ hst (fun f w hC h => hQ f w hC (fun i o ho => h i o (by simpa using ho))) _ _ _ w.drew (by simp) (by simp) hC rfl rfl (fun _ _ => rfl) ?_)
  intro i o hi
  simp at hi
  rcases Nat.lt_or_ge i l.length with h | h
  · simp [h] at hi
  · simp [Nat.not_lt.2 h] at hi

/-! What each kind of operation must do. -/
theorem tt_val {k : Nat} {o : Oper} {a : Act} {w : World} (v : Value) (hw : Region.wanted o (yielded ops a.tmps) = true) (hr : (execOp a.eval o).run P w = .ok (.value v) w) (hC : C w) (hv : φ k (slots (a.put o.dst v)) w) (hR : R w w) : StepT P ops Q C φ R k o a w := by
  unfold StepT
  rw [if_pos hw]
  unfold Oper.wp
  rw [hr]
  exact ⟨v, rfl, hC, hv, hR⟩
theorem tt_skip {k : Nat} {o : Oper} {a : Act} {w : World} (hw : Region.wanted o (yielded ops a.tmps) = false) (hv : φ k (slots (a.put o.dst undef)) w) : StepT P ops Q C φ R k o a w := by
  unfold StepT
  rw [if_neg (by rw [hw]; exact Bool.false_ne_true)]
  exact hv
theorem tt_new {k : Nat} {o : Oper} {a : Act} {w w' : World} (v : Value) (hw : Region.wanted o (yielded ops a.tmps) = true) (hr : (execOp a.eval o).run P w = .ok (.value v) w') (hC : C w') (hv : φ k (slots (a.put o.dst v)) w') (hR : R w w') : StepT P ops Q C φ R k o a w := by
  unfold StepT
  rw [if_pos hw]
  unfold Oper.wp
  rw [hr]
  exact ⟨v, rfl, hC, hv, hR⟩
theorem tt_v {k : Nat} {o : Oper} {a : Act} {w w' : World} (s : Sem Value) (v : Value) (hw : Region.wanted o (yielded ops a.tmps) = true) (ho : execOp a.eval o = (do let x ← s; pure (.value x))) (hr : s.run P w = .ok v w') (hC : C w') (hv : φ k (slots (a.put o.dst v)) w') (hR : R w w') : StepT P ops Q C φ R k o a w :=
  tt_new v hw (by rw [ho]; simp only [Sem.run_bind, hr, Result.andThen_ok, Sem.run_pure]) hC hv hR
theorem slots_put (a : Act) (d : Nat) (v : Value) (h : d < a.tmps.size) : slots (a.put (some d) v) d = v := put_same a d v h
theorem slots_other (a : Act) (d t : Nat) (v : Value) (h : d ≠ t) : slots (a.put (some d) v) t = slots a t := put_other a (some d) v t (by simpa using h)
theorem tt_load {k : Nat} {o : Oper} {a : Act} {w : World} (T : TypeId) (x : Operand) (p v : Value) (ho : o.op = .load T x) (hw : Region.wanted o (yielded ops a.tmps) = true) (hp : a.eval x = p)
    (hr : (Instr.loadAt T p).run P w = .ok v w) (hC : C w) (hv : φ k (slots (a.put o.dst v)) w) (hR : R w w) : StepT P ops Q C φ R k o a w :=
  tt_val v hw (by
    unfold execOp
    rw [ho]
    simp only [hp, Sem.run_bind, hr, Result.andThen_ok, Sem.run_pure]) hC hv hR
theorem tt_call {k : Nat} {o : Oper} {a : Act} {w : World} (f : FuncId) (args : Array Value) (hw : Region.wanted o (yielded ops a.tmps) = true) (he : (execOp a.eval o).run P w = .ok (.enter f args) w)
    (hc : Calls P f args w fun e w' => ∃ v, e = .returned v ∧ C w' ∧ φ k (slots (a.put o.dst v)) w' ∧ R w w') : StepT P ops Q C φ R k o a w := by
  unfold StepT
  rw [if_pos hw]
  unfold Oper.wp
  rw [he]
  refine Calls.mono hc ?_
  rintro e w' ⟨v, rfl, h1, h2, h3⟩
  exact ⟨v, rfl, h1, h2, h3⟩
theorem tt_store {k : Nat} {o : Oper} {a : Act} {w w' : World} (hw : Region.wanted o (yielded ops a.tmps) = true) (hd : o.dst = none) (hr : (execOp a.eval o).run P w = .ok .skip w') (hC : C w') (hv : φ k (slots a) w') (hR : R w w') : StepT P ops Q C φ R k o a w := by
  unfold StepT
  rw [if_pos hw]
  unfold Oper.wp
  rw [hr]
  refine ⟨undef, by rw [hd], hC, ?_, hR⟩
  rw [hd]; exact hv
end

/-- What a region's operations leave as it was: the blocks below h, the others' sizes and types; and who holds what is to be laid (F says what, by its type) goes on to. -/
structure RT (h : Nat) (F : TypeId → Array Value) (w w' : World) : Prop where
  size : w.heap.size ≤ w'.heap.size
  below : ∀ (k : Nat), k < h → w'.heap[k]? = w.heap[k]?
  shape : ∀ (k : Nat) (cs : Array Value) (T : TypeId) (fz : Nat × Nat), w.heap[k]? = some (.cells cs T fz) → ∃ cs' : Array Value, w'.heap[k]? = some (.cells cs' T fz) ∧ cs'.size = cs.size
  keep : ∀ (k : Nat) (T : TypeId) (fz : Nat × Nat), w.heap[k]? = some (.cells (F T) T fz) → w'.heap[k]? = some (.cells (F T) T fz)
theorem RT.refl (h : Nat) (F : TypeId → Array Value) (w : World) : RT h F w w := ⟨Nat.le_refl _, fun _ _ => rfl, fun _ cs _ _ e => ⟨cs, e, rfl⟩, fun _ _ _ e => e⟩
theorem RT.of {h : Nat} {F : TypeId → Array Value} {w w' : World} (hh : h ≤ w.heap.size) (hb : Below w.heap.size w w') : RT h F w w' := by
  have lt : ∀ {k : Nat} {o : Obj}, w.heap[k]? = some o → k < w.heap.size := fun e => (Array.getElem?_eq_some_iff.1 e).1
  exact ⟨hb.size, fun k hk => hb.block k (by omega), fun k cs T fz e => ⟨cs, (hb.block k (lt e)).trans e, rfl⟩, fun _ _ _ e => (hb.block _ (lt e)).trans e⟩
theorem RT.row {h g : Nat} {F : TypeId → Array Value} {w : World} {cs : Array Value} {T : TypeId} {fz : Nat × Nat} (hg : h ≤ g) (e : w.heap[g]? = some (.cells cs T fz)) (hs : cs.size = (F T).size) : RT h F w (w.setRow g (F T)) := by
  refine ⟨Nat.le_of_eq (setRow_size w g (F T)).symm, fun k hk => setRow_other _ _ _ _ (by omega), fun k cs' T' fz' e' => ?_, fun k T' fz' e' => ?_⟩
  · by_cases q : k = g
    · subst q
      rw [e] at e'
      cases e'
      exact ⟨_, setRow_heap _ _ _ _ _ _ e, hs.symm⟩
    · exact ⟨cs', (setRow_other _ _ _ _ q).trans e', rfl⟩
  · by_cases q : k = g
    · subst q
      rw [e] at e'
      cases e'
      exact setRow_heap _ _ _ _ _ _ e
    · exact (setRow_other _ _ _ _ q).trans e'
end Go.Proofs.YtcmpnnfnkcmpcaaDoor
namespace Go.Proofs.YtcmpnnfnkcmpcaaDoor
open Go.RowKit

section
variable {P : Program} {ops : Array Oper} {Q : Exit → Act → World → Prop} {C : (Nat → Value) → World → Prop} {φ : Nat → (Nat → Value) → World → Prop} {R : (Nat → Value) → World → World → Prop} {a0 : Act}

def StepU (P : Program) (ops : Array Oper) (Q : Exit → Act → World → Prop) (C : (Nat → Value) → World → Prop) (φ : Nat → (Nat → Value) → World → Prop) (R : (Nat → Value) → World → World → Prop) (k : Nat) (o : Oper) (a : Act) (w : World) : Prop :=
  if Region.wanted o (yielded ops a.tmps) then o.wp P a w (fun a' w' => ∃ v, a' = a.put o.dst v ∧ C (slots (a.put o.dst v)) w' ∧ φ k (slots (a.put o.dst v)) w' ∧ R (slots a) w w') Q else (C (slots (a.put o.dst undef)) w ∧ φ k (slots (a.put o.dst undef)) w)
def StepsU (P : Program) (ops : Array Oper) (Q : Exit → Act → World → Prop) (C : (Nat → Value) → World → Prop) (φ : Nat → (Nat → Value) → World → Prop) (R : (Nat → Value) → World → World → Prop) (a0 : Act) : Nat → List Oper → Prop
  | _, [] => True
  | k, o :: l => (∀ a w, C (slots a) w → a.tmps.size = a0.tmps.size → KnownT ops φ a0 o a w → StepU P ops Q C φ R k o a w) ∧ StepsU P ops Q C φ R a0 (k + 1) l
theorem StepsU.at_ : ∀ {l : List Oper} {k : Nat}, StepsU P ops Q C φ R a0 k l → ∀ (i : Nat) (o : Oper), l[i]? = some o → ∀ a w, C (slots a) w → a.tmps.size = a0.tmps.size → KnownT ops φ a0 o a w → StepU P ops Q C φ R (k + i) o a w
  | [], _, _, i, o, hi => by simp at hi
  | o :: l, k, h, 0, o', hi => by simp at hi; subst hi; exact h.1
  | o :: l, k, h, i + 1, o', hi => by
    have := StepsU.at_ h.2 i o' (by simpa using hi)
    rwa [show k + 1 + i = k + (i + 1) by omega] at this

theorem wpAny_tie2 (rd : Nat → List Nat) (rk : Nat → Nat) (hdist : distinctB ops.toList = true) (hlex : rankB ops rk = true) (hon : ∀ (i : Nat) (o : Oper), ops[i]? = some o → ∀ e ∈ o.after, e.on < ops.size) (hown : ownB ops rd = true)
    (hrd : ∀ i s s' w, (∀ t ∈ rd i, s t = s' t) → φ i s w → φ i s' w)
    (hφ : ∀ i s w w', C s w → R s w w' → φ i s w → φ i s w') (hst : StepsU P ops Q C φ R a0 0 ops.toList)
    (hQ : ∀ (f : Oper → Value) w, C (slots (putAll f ops.toList a0)) w → (∀ i o, ops[i]? = some o → φ i (slots (putAll f ops.toList a0)) w) → Q .normal (putAll f ops.toList a0) w) :
    ∀ (fuel : Nat) (listed : Array Bool) (a : Act) (w : World), listed.size = ops.size → listed.toList.count false ≤ fuel → C (slots a) w → a.tmps.size = a0.tmps.size → a.defers = a0.defers →
      (∀ t, isDst ops.toList t = false → a.tmps.getD t undef = a0.tmps.getD t undef) → (∀ i o, listed.getD i false = true → ops[i]? = some o → φ i (slots a) w ∧ ∀ e ∈ o.after, Region.binds .any e = true → listed.getD e.on false = true) → wpAny P .any ops Q fuel listed a w := by
  have done : ∀ (listed : Array Bool) (a : Act) (w : World), (∀ i, i < ops.size → listed.getD i false = true) → C (slots a) w → a.tmps.size = a0.tmps.size → a.defers = a0.defers →
      (∀ t, isDst ops.toList t = false → a.tmps.getD t undef = a0.tmps.getD t undef) → (∀ i o, listed.getD i false = true → ops[i]? = some o → φ i (slots a) w ∧ ∀ e ∈ o.after, Region.binds .any e = true → listed.getD e.on false = true) → Q .normal a w := by
    intro listed a w hall hC hs hd hk hp
    have hb := put_back hs hd hk
    rw [hb]
    exact hQ _ w (by rw [← hb]; exact hC) (fun i o ho => by rw [← hb]; exact (hp i o (hall i (Array.getElem?_eq_some_iff.1 ho).1) ho).1)
  intro fuel
  induction fuel with
  | zero =>
    intro listed a w hsz hc hC hs hd hk hp
    have hno : false ∉ listed.toList := List.count_eq_zero.1 (by omega)
    have hall : ∀ i, i < ops.size → listed.getD i false = true := fun i hi => by
      have hlt : i < listed.size := by omega
      have hm : listed[i] ∈ listed.toList := by simp
      simp only [Array.getD_eq_getD_getElem?, hlt, Array.getElem?_eq_getElem, Option.getD_some]
      cases h : listed[i] with
      | true => rfl
      | false => rw [h] at hm; exact absurd hm hno
    refine ⟨?_, done listed a w hall hC hs hd hk hp⟩
    rw [List.eq_nil_iff_forall_not_mem]
    intro j hj
    obtain ⟨h0, o, ho, -⟩ := mem_ready.1 hj
    have hlt := (Array.getElem?_eq_some_iff.1 ho).1
    have h1 := hall j hlt
    simp [show j < listed.size by omega] at h0 h1
    rw [h0] at h1
    cases h1
  | succ fuel ih =>
    intro listed a w hsz hc hC hs hd hk hp
    refine ⟨fun hr => ?_, fun i hi => ?_⟩
    · refine done listed a w ?_ hC hs hd hk hp
      -- the least that isn't listed would be ready
      have key : ∀ r i, rk i < r → i < ops.size → listed.getD i false = true := by
        intro r
        induction r with
        | zero => intro i h; omega
        | succ r ihr =>
          intro i hri hi
          cases h : listed.getD i false with
          | true => rfl
          | false =>
            have ho : ops[i]? = some ops[i] := Array.getElem?_eq_getElem hi
            have : i ∈ Region.ready .any ops listed := mem_ready.2 ⟨by simpa [show i < listed.size by omega] using h, ops[i], ho, fun e he hb => by
              have hl := hlex
              unfold rankB at hl
              rw [List.all_eq_true] at hl
              have := hl i (by simpa using hi)
              rw [ho] at this
              simp only [Array.all_eq_true_iff_forall_mem] at this
              have hlt := this e he
              rw [hb] at hlt
              simp at hlt
              exact ihr e.on (by omega) (hon i _ ho e he)⟩
            rw [hr] at this
            cases this
      exact fun i hi => key (rk i + 1) i (by omega) hi
    · obtain ⟨h0, o, ho, hall⟩ := mem_ready.1 hi
      have hlt : i < ops.size := (Array.getElem?_eq_some_iff.1 ho).1
      have hl' : ops.toList[i]? = some o := by simpa using ho
      have hstep := hst.at_ i o hl' a w hC hs ⟨hk, fun e he hb oj hj => (hp e.on oj (by have := hall e he hb; simpa using this) hj).1⟩
      rw [Nat.zero_add] at hstep
      have go : ∀ (v : Value) (w' : World), C (slots (a.put o.dst v)) w' → φ i (slots (a.put o.dst v)) w' → (∀ j, φ j (slots a) w → φ j (slots a) w') → wpAny P .any ops Q fuel (listed.setIfInBounds i true) (a.put o.dst v) w' := by
        intro v w' hC' hv hm
        refine ih _ _ _ (by simpa using hsz) ?_ hC' (by rw [put_size]; exact hs) (by rw [put_defers]; exact hd) ?_ ?_
        · have hil : i < listed.size := by omega
          have e0 : listed[i] = false := by simpa [hil] using h0
          rw [Array.toList_setIfInBounds, List.count_set (by simpa using hil)]
          have : listed.toList[i]'(by simpa using hil) = false := by simpa using e0
          simp only [this]
          simp
          have hpos : 0 < listed.toList.count false := List.count_pos_iff.2 (by rw [← e0]; simp)
          simp at hpos
          simp at hc
          omega
        · intro t ht
          have hne : o.dst ≠ some t := fun e => by
            simp only [isDst, List.any_eq_false] at ht
            exact ht o (List.mem_of_getElem? hl') (by simp [e])
          rw [put_other _ _ _ _ hne]
          exact hk t ht
        · intro j oj hj hoj
          by_cases e : i = j
          · subst e
            have : oj = o := Option.some.inj (hoj.symm.trans ho)
            subst this
            refine ⟨hv, fun e he hb => ?_⟩
            have h1 := hall e he hb
            by_cases q : i = e.on
            · rw [← q]; exact getD_set_same (by omega)
            · rw [getD_set_ne false q]; simpa using h1
          · rw [getD_set_ne false e] at hj
            obtain ⟨h1, h2⟩ := hp j oj hj hoj
            refine ⟨hrd j _ _ w' (fun t ht => ?_) (hm _ h1), fun e' he hb => ?_⟩
            · have hne : o.dst ≠ some t := fun hd' => by
                rcases own_spec hown hoj ht with h3 | h3 | ⟨e', he, hb, ok, hok, hkd⟩
                · exact distinct_spec hdist i j o oj t hl' (by simpa using hoj) e hd' h3
                · simp only [isDst, List.any_eq_false] at h3
                  exact h3 o (List.mem_of_getElem? hl') (by simp [hd'])
                · have h4 := h2 e' he hb
                  have h5 : i ≠ e'.on := fun q => by rw [← q, getD_both h0] at h4; cases h4
                  exact distinct_spec hdist i e'.on o ok t hl' (by simpa using hok) h5 hd' hkd
              exact (put_other _ _ _ _ hne).symm
            · by_cases q : i = e'.on
              · rw [← q]; exact getD_set_same (by omega)
              · rw [getD_set_ne false q]; exact h2 e' he hb
      unfold wpOp
      rw [ho]
      simp only
      unfold StepU at hstep
      split
      · rename_i hw
        rw [if_pos hw] at hstep
        refine .inl (Oper.wp_mono ?_ hstep)
        rintro a' w' ⟨v, rfl, hC', hv, hR⟩
        exact go v w' hC' hv (fun j h => hφ j _ w w' hC hR h)
      · rename_i hw
        rw [if_neg hw] at hstep
        exact go undef w hstep.1 hstep.2 (fun j h => h)

/-- THE LAW. -/
theorem region_tie2 {id : Nat} {l : List Oper} {w : World} (C : (Nat → Value) → World → Prop) (φ : Nat → (Nat → Value) → World → Prop) (R : (Nat → Value) → World → World → Prop) (rd : Nat → List Nat) (rk : Nat → Nat) (hm : P.follows .mixedOrders = true)
    (hB : (distinctB l && rankB l.toArray rk && ownB l.toArray rd && insideB l.toArray) = true) (hC : C (slots a0) w.drew)
    (hrd : ∀ i s s' w, (∀ t ∈ rd i, s t = s' t) → φ i s w → φ i s' w) (hφ : ∀ i s w w', C s w → R s w w' → φ i s w → φ i s w') (hst : StepsU P l.toArray Q C φ R a0 0 l)
    (hQ : ∀ (f : Oper → Value) w, C (slots (putAll f l a0)) w → (∀ i o, l[i]? = some o → φ i (slots (putAll f l a0)) w) → Q .normal (putAll f l a0) w) : (Code.region id l.toArray true).wp P Q a0 w := by
  simp only [Bool.and_eq_true] at hB
  refine wp_region_any hm (wpAny_tie2 (C := C) (φ := φ) (R := R) (a0 := a0) rd rk hB.1.1.1 hB.1.1.2 (inside_spec hB.2) hB.1.2 hrd hφ hst (fun f w hC h => hQ f w hC (fun i o ho => h i o (by simpa using ho))) _ _ _ w.drew (by simp) (by simp) hC rfl rfl (fun _ _ => rfl) ?_)
  intro i o hi
  simp at hi
  rcases Nat.lt_or_ge i l.length with h | h
  · simp [h] at hi
  · simp [Nat.not_lt.2 h] at hi

/-! What each kind of operation must do. -/
theorem uu_val {k : Nat} {o : Oper} {a : Act} {w : World} (v : Value) (hw : Region.wanted o (yielded ops a.tmps) = true) (hr : (execOp a.eval o).run P w = .ok (.value v) w) (hC : C (slots (a.put o.dst v)) w) (hv : φ k (slots (a.put o.dst v)) w) (hR : R (slots a) w w) : StepU P ops Q C φ R k o a w := by
  unfold StepU
  rw [if_pos hw]
  unfold Oper.wp
  rw [hr]
  exact ⟨v, rfl, hC, hv, hR⟩
theorem uu_skip {k : Nat} {o : Oper} {a : Act} {w : World} (hw : Region.wanted o (yielded ops a.tmps) = false) (hC : C (slots (a.put o.dst undef)) w) (hv : φ k (slots (a.put o.dst undef)) w) : StepU P ops Q C φ R k o a w := by
  unfold StepU
  rw [if_neg (by rw [hw]; exact Bool.false_ne_true)]
  exact ⟨hC, hv⟩
theorem uu_new {k : Nat} {o : Oper} {a : Act} {w w' : World} (v : Value) (hw : Region.wanted o (yielded ops a.tmps) = true) (hr : (execOp a.eval o).run P w = .ok (.value v) w') (hC : C (slots (a.put o.dst v)) w') (hv : φ k (slots (a.put o.dst v)) w') (hR : R (slots a) w w') : StepU P ops Q C φ R k o a w := by
  unfold StepU
  rw [if_pos hw]
  unfold Oper.wp
  rw [hr]
  exact ⟨v, rfl, hC, hv, hR⟩
theorem uu_v {k : Nat} {o : Oper} {a : Act} {w w' : World} (s : Sem Value) (v : Value) (hw : Region.wanted o (yielded ops a.tmps) = true) (ho : execOp a.eval o = (do let x ← s; pure (.value x))) (hr : s.run P w = .ok v w') (hC : C (slots (a.put o.dst v)) w') (hv : φ k (slots (a.put o.dst v)) w') (hR : R (slots a) w w') : StepU P ops Q C φ R k o a w :=
  uu_new v hw (by rw [ho]; simp only [Sem.run_bind, hr, Result.andThen_ok, Sem.run_pure]) hC hv hR
theorem uu_load {k : Nat} {o : Oper} {a : Act} {w : World} (T : TypeId) (x : Operand) (p v : Value) (ho : o.op = .load T x) (hw : Region.wanted o (yielded ops a.tmps) = true) (hp : a.eval x = p)
    (hr : (Instr.loadAt T p).run P w = .ok v w) (hC : C (slots (a.put o.dst v)) w) (hv : φ k (slots (a.put o.dst v)) w) (hR : R (slots a) w w) : StepU P ops Q C φ R k o a w :=
  uu_val v hw (by
    unfold execOp
    rw [ho]
    simp only [hp, Sem.run_bind, hr, Result.andThen_ok, Sem.run_pure]) hC hv hR
theorem uu_call {k : Nat} {o : Oper} {a : Act} {w : World} (f : FuncId) (args : Array Value) (hw : Region.wanted o (yielded ops a.tmps) = true) (he : (execOp a.eval o).run P w = .ok (.enter f args) w)
    (hc : Calls P f args w fun e w' => ∃ v, e = .returned v ∧ C (slots (a.put o.dst v)) w' ∧ φ k (slots (a.put o.dst v)) w' ∧ R (slots a) w w') : StepU P ops Q C φ R k o a w := by
  unfold StepU
  rw [if_pos hw]
  unfold Oper.wp
  rw [he]
  refine Calls.mono hc ?_
  rintro e w' ⟨v, rfl, h1, h2, h3⟩
  exact ⟨v, rfl, h1, h2, h3⟩
theorem uu_store {k : Nat} {o : Oper} {a : Act} {w w' : World} (hw : Region.wanted o (yielded ops a.tmps) = true) (hd : o.dst = none) (hr : (execOp a.eval o).run P w = .ok .skip w') (hC : C (slots a) w') (hv : φ k (slots a) w') (hR : R (slots a) w w') : StepU P ops Q C φ R k o a w := by
  unfold StepU
  rw [if_pos hw]
  unfold Oper.wp
  rw [hr]
  refine ⟨undef, by rw [hd], ?_, ?_, hR⟩
  · rw [hd]; exact hC
  · rw [hd]; exact hv
end
end Go.Proofs.YtcmpnnfnkcmpcaaDoor
namespace Go.Proofs.YtcmpnnfnkcmpcaaDoor
open Go.RowKit

/-- What is known behind an operation: of its slot, and of the block at which a slot points. -/
inductive Sp
  | val (d : Nat) (v : Value)
  | blk (d : Nat) (T : TypeId)
  | laid (p : Nat) (T : TypeId)
  | own (d : Nat) (f : Value → World → Prop)
  | none

/-- J: what is laid into the block at which a slot points. -/
def Sp.at_ (H : Nat) (J : Nat → Array Value) : Sp → (Nat → Value) → World → Prop
  | .val d v, s, _ => s d = v
  | .blk d T, s, w => ∃ D, s d = .pointer (some ⟨D, 0, Option.none⟩) ∧ H ≤ D ∧ ∃ cs : Array Value, w.heap[D]? = some (.cells cs T (0, 0)) ∧ cs.size = (J d).size
  | .laid p T, s, w => ∃ D, s p = .pointer (some ⟨D, 0, Option.none⟩) ∧ H ≤ D ∧ w.heap[D]? = some (.cells (J p) T (0, 0))
  | .own d f, s, w => f (s d) w
  | .none, _, _ => True
def Sp.rd : Sp → List Nat
  | .val d _ => [d]
  | .blk d _ => [d]
  | .laid p _ => [p]
  | .own d _ => [d]
  | .none => []
def Sp.ok (ps : List Nat) : Sp → Prop
  | .own _ f => ps = [] ∧ ∀ v wa wb, Below wa.heap.size wa wb → f v wa → f v wb
  | .blk d _ => d ∈ ps
  | .laid d _ => d ∈ ps
  | _ => True
def spAt (L : List Sp) (i : Nat) : Sp := L.getD i .none
def okL (ps : List Nat) : List Sp → Prop
  | [] => True
  | p :: l => p.ok ps ∧ okL ps l
theorem okL.at_ {ps : List Nat} : ∀ {L : List Sp}, okL ps L → ∀ i, (spAt L i).ok ps
  | [], _, i => by simp [spAt, Sp.ok]
  | p :: l, h, 0 => by simpa [spAt] using h.1
  | p :: l, h, i + 1 => by simpa [spAt] using okL.at_ h.2 i
theorem Sp.same {H : Nat} {J : Nat → Array Value} {p : Sp} {s s' : Nat → Value} {w : World} (h : ∀ t ∈ p.rd, s t = s' t) (hp : p.at_ H J s w) : p.at_ H J s' w := by
  cases p with
  | val d v => exact (h d (by simp [Sp.rd])).symm.trans hp
  | blk d T => obtain ⟨D, h1, h2⟩ := hp; exact ⟨D, (h d (by simp [Sp.rd])).symm.trans h1, h2⟩
  | laid d T => obtain ⟨D, h1, h2⟩ := hp; exact ⟨D, (h d (by simp [Sp.rd])).symm.trans h1, h2⟩
  | own d f => have e := h d (by simp [Sp.rd]); exact (congrArg (fun v => f v w) e).mp hp
  | none => trivial

/-- Where the results lie (ps: the slots of their addresses): behind what was there, and apart. What lay in these slots ahead of the region points below H. -/
structure AN (ps : List Nat) (H : Nat) (s : Nat → Value) (wx : World) : Prop where
  at_ : ∀ p ∈ ps, ∀ q ∈ ps, p ≠ q → ∀ D, s p = .pointer (some ⟨D, 0, none⟩) → H ≤ D → D < wx.heap.size
  ne : ∀ p ∈ ps, ∀ q ∈ ps, p ≠ q → ∀ D E, s p = .pointer (some ⟨D, 0, none⟩) → s q = .pointer (some ⟨E, 0, none⟩) → H ≤ D → H ≤ E → D ≠ E
theorem AN.start {ps : List Nat} {H : Nat} {s : Nat → Value} {wx : World} (h : ∀ p ∈ ps, ∀ q ∈ ps, p ≠ q → ∀ D, s p = .pointer (some ⟨D, 0, none⟩) → D < H) : AN ps H s wx :=
  ⟨fun p hp q hq hne D e hl => (by have := h p hp q hq hne D e; omega), fun p hp q hq hne D _ e _ hl _ => (by have := h p hp q hq hne D e; omega)⟩
theorem AN.put {ps : List Nat} {H : Nat} {s s' : Nat → Value} {wx w' : World} (h : AN ps H s wx) (e : ∀ p ∈ ps, s' p = s p) (hl : wx.heap.size ≤ w'.heap.size) : AN ps H s' w' :=
  ⟨fun p hp q hq hne D hD hh => Nat.lt_of_lt_of_le (h.at_ p hp q hq hne D ((e p hp) ▸ hD) hh) hl, fun p hp q hq hne D E h1 h2 => h.ne p hp q hq hne D E ((e p hp) ▸ h1) ((e q hq) ▸ h2)⟩
theorem AN.new {ps : List Nat} {H t : Nat} {s s' : Nat → Value} {wx w' : World} (h : AN ps H s wx) (e : s' t = .pointer (some ⟨wx.heap.size, 0, none⟩)) (eo : ∀ p ∈ ps, p ≠ t → s' p = s p) (hl : wx.heap.size < w'.heap.size) : AN ps H s' w' := by
  have ge : ∀ p ∈ ps, ∀ D, s' p = .pointer (some ⟨D, 0, none⟩) → p ≠ t → s p = .pointer (some ⟨D, 0, none⟩) := fun p hp D hD hne => (eo p hp hne) ▸ hD
  refine ⟨fun p hp q hq hne D hD hh => ?_, fun p hp q hq hne D E h1 h2 hh he => ?_⟩
  · by_cases r : p = t
    · subst r; rw [e] at hD; cases hD; exact hl
    · have := h.at_ p hp q hq hne D (ge p hp D hD r) hh; omega
  · by_cases a : p = t
    · subst a
      rw [e] at h1; cases h1
      have := h.at_ q hq p hp (Ne.symm hne) E (ge q hq E h2 (Ne.symm hne)) he
      omega
    · by_cases b : q = t
      · subst b
        rw [e] at h2; cases h2
        have := h.at_ p hp q hq hne D (ge p hp D h1 a) hh
        omega
      · exact h.ne p hp q hq hne D E (ge p hp D h1 a) (ge q hq E h2 b) hh he
/-- What a step does to what was there: nothing, or one of the results is laid. -/
def RNM (H : Nat) (ps : List Nat) (J : Nat → Array Value) (s : Nat → Value) (wa wb : World) : Prop := Below wa.heap.size wa wb ∨ ∃ p ∈ ps, ∃ D, s p = .pointer (some ⟨D, 0, none⟩) ∧ H ≤ D ∧ wb = wa.setRow D (J p)
theorem RNM.same {H : Nat} {ps : List Nat} {J : Nat → Array Value} {s : Nat → Value} (wa : World) : RNM H ps J s wa wa := .inl (Below.refl _ _)
/-- The worlds: what was there is as it was. -/
def CM (w : World) (ps : List Nat) (s : Nat → Value) (wx : World) : Prop := Below w.heap.size w wx ∧ AN ps w.heap.size s wx
theorem Sp.keep {w : World} {ps : List Nat} {J : Nat → Array Value} {p : Sp} (ho : p.ok ps) {s : Nat → Value} {wa wb : World} (hC : CM w ps s wa) (hR : RNM w.heap.size ps J s wa wb) (hp : p.at_ w.heap.size J s wa) : p.at_ w.heap.size J s wb := by
  cases p with
  | val d v => exact hp
  | none => trivial
  | own d f =>
    rcases hR with h | ⟨q, hq, _⟩
    · exact ho.2 _ _ _ h hp
    · rw [ho.1] at hq; cases hq
  | blk d T =>
    obtain ⟨D, h1, hh, cs, h2, h3⟩ := hp
    rcases hR with h | ⟨q, hq, E, hE, he, rfl⟩
    · exact ⟨D, h1, hh, cs, (h.block _ (Array.getElem?_eq_some_iff.1 h2).1).trans h2, h3⟩
    · by_cases e : D = E
      · subst e
        have : q = d := Classical.byContradiction fun hne => hC.2.ne q hq d ho hne D D hE h1 he hh rfl
        subst this
        exact ⟨D, h1, hh, J q, setRow_heap _ _ _ _ _ _ h2, rfl⟩
      · exact ⟨D, h1, hh, cs, (setRow_other _ _ _ _ e).trans h2, h3⟩
  | laid d T =>
    obtain ⟨D, h1, hh, h2⟩ := hp
    rcases hR with h | ⟨q, hq, E, hE, he, rfl⟩
    · exact ⟨D, h1, hh, (h.block _ (Array.getElem?_eq_some_iff.1 h2).1).trans h2⟩
    · by_cases e : D = E
      · subst e
        have : q = d := Classical.byContradiction fun hne => hC.2.ne q hq d ho hne D D hE h1 he hh rfl
        subst this
        exact ⟨D, h1, hh, setRow_heap _ _ _ _ _ _ h2⟩
      · exact ⟨D, h1, hh, (setRow_other _ _ _ _ e).trans h2⟩

/-- A guarded operation whose guard's value is known. -/
theorem yielded_of {ops : Array Oper} {tmps : Array Value} {j d : Nat} {b : Bool} (hd : (ops[j]?).bind (·.dst) = some d) (hv : tmps.getD d undef = .bool b) : yielded ops tmps j = some b := by
  unfold yielded
  have e : tmps[d]? = some (.bool b) := by
    by_cases h : d < tmps.size
    · rw [Array.getElem?_eq_getElem h]
      simpa [h] using hv
    · simp [h, undef] at hv
  rw [hd]
  simp only [Option.bind_some, e]
theorem wanted_of {ops : Array Oper} {tmps : Array Value} {o : Oper} {j d : Nat} {b : Bool} (hg : o.guard = some (j, b)) (hd : (ops[j]?).bind (·.dst) = some d) (hv : tmps.getD d undef = .bool b) : Region.wanted o (yielded ops tmps) = true := by
  unfold Region.wanted
  rw [hg]
  simp only [yielded_of hd hv, beq_self_eq_true]
theorem unwanted_of {ops : Array Oper} {tmps : Array Value} {o : Oper} {j d : Nat} {b c : Bool} (hg : o.guard = some (j, b)) (hd : (ops[j]?).bind (·.dst) = some d) (hv : tmps.getD d undef = .bool c) (hn : (c == b) = false) : Region.wanted o (yielded ops tmps) = false := by
  unfold Region.wanted
  rw [hg]
  simp only [yielded_of hd hv]
  cases b <;> cases c <;> first | rfl | cases hn

section
variable {P : Program} {ops : Array Oper} {Q : Exit → Act → World → Prop} {a0 : Act}
/-- THE LAW. -/
theorem region_many {id : Nat} {l : List Oper} {w : World} (L : List Sp) (ps : List Nat) (J : Nat → Array Value) (rk : Nat → Nat) (hm : P.follows .mixedOrders = true)
    (hB : (distinctB l && rankB l.toArray rk && ownB l.toArray (fun i => (spAt L i).rd) && insideB l.toArray) = true) (hO : okL ps L) (h0 : ∀ p ∈ ps, ∀ q ∈ ps, p ≠ q → ∀ D, a0.tmps.getD p undef = .pointer (some ⟨D, 0, none⟩) → D < w.heap.size)
    (hst : StepsU P l.toArray Q (CM w ps) (fun i s wx => (spAt L i).at_ w.heap.size J s wx) (RNM w.heap.size ps J) a0 0 l)
    (hQ : ∀ (f : Oper → Value) wx, Below w.heap.size w wx → AN ps w.heap.size (slots (putAll f l a0)) wx → (∀ i o, l[i]? = some o → (spAt L i).at_ w.heap.size J (slots (putAll f l a0)) wx) → Q .normal (putAll f l a0) wx) : (Code.region id l.toArray true).wp P Q a0 w :=
  region_tie2 (CM w ps) (fun i s wx => (spAt L i).at_ w.heap.size J s wx) (RNM w.heap.size ps J) (fun i => (spAt L i).rd) rk hm hB ⟨Below.drew (Below.refl _ _), AN.start h0⟩ (fun _ _ _ _ h hp => Sp.same h hp) (fun i _ _ _ hC hR hp => Sp.keep (hO.at_ i) hC hR hp) hst (fun f wx hC hp => hQ f wx hC.1 hC.2 hp)

/-! What each kind of operation must do. -/
variable {w : World} {L : List Sp} {ps : List Nat} {J : Nat → Array Value}
abbrev PhiN (w : World) (L : List Sp) (J : Nat → Array Value) : Nat → (Nat → Value) → World → Prop := fun i s wx => (spAt L i).at_ w.heap.size J s wx
theorem ps_other {ps : List Nat} {a : Act} {d : Nat} {v : Value} (h : ps.all (· != d) = true) : ∀ p ∈ ps, slots (a.put (some d) v) p = slots a p := fun p hp => slots_other a d p v (by
  have := List.all_eq_true.1 h p hp
  have h2 : p ≠ d := by simpa using this
  exact fun e => h2 e.symm)
theorem mm_val {k d : Nat} {o : Oper} {a : Act} {wx : World} (v : Value) (hd : o.dst = some d) (hw : Region.wanted o (yielded ops a.tmps) = true) (hr : (execOp a.eval o).run P wx = .ok (.value v) wx) (hC : CM w ps (slots a) wx) (hps : ps.all (· != d) = true) (hsz : d < a.tmps.size) (hv : spAt L k = .val d v) : StepU P ops Q (CM w ps) (PhiN w L J) (RNM w.heap.size ps J) k o a wx :=
  uu_val v hw hr (by rw [hd]; exact ⟨hC.1, hC.2.put (ps_other hps) (Nat.le_refl _)⟩) (by rw [hd]; show (spAt L k).at_ w.heap.size J _ _; rw [hv]; exact slots_put _ _ _ hsz) (RNM.same _)
theorem mm_skip {k d : Nat} {o : Oper} {a : Act} {wx : World} (hd : o.dst = some d) (hw : Region.wanted o (yielded ops a.tmps) = false) (hC : CM w ps (slots a) wx) (hps : ps.all (· != d) = true) (hsz : d < a.tmps.size) (hv : spAt L k = .val d undef) : StepU P ops Q (CM w ps) (PhiN w L J) (RNM w.heap.size ps J) k o a wx :=
  uu_skip hw (by rw [hd]; exact ⟨hC.1, hC.2.put (ps_other hps) (Nat.le_refl _)⟩) (by rw [hd]; show (spAt L k).at_ w.heap.size J _ _; rw [hv]; exact slots_put _ _ _ hsz)
theorem mm_sem {k d : Nat} {o : Oper} {a : Act} {wx : World} (s : Sem Value) (v : Value) (hd : o.dst = some d) (hw : Region.wanted o (yielded ops a.tmps) = true) (ho : execOp a.eval o = (do let x ← s; pure (.value x))) (hr : s.run P wx = .ok v wx) (hC : CM w ps (slots a) wx) (hps : ps.all (· != d) = true) (hsz : d < a.tmps.size) (hv : spAt L k = .val d v) : StepU P ops Q (CM w ps) (PhiN w L J) (RNM w.heap.size ps J) k o a wx :=
  mm_val v hd hw (by rw [ho]; simp only [Sem.run_bind, hr, Result.andThen_ok, Sem.run_pure]) hC hps hsz hv
theorem mm_load {k d : Nat} {o : Oper} {a : Act} {wx : World} (T : TypeId) (x : Operand) (p v : Value) (hd : o.dst = some d) (ho : o.op = .load T x) (hw : Region.wanted o (yielded ops a.tmps) = true) (hp : a.eval x = p)
    (hr : (Instr.loadAt T p).run P wx = .ok v wx) (hC : CM w ps (slots a) wx) (hps : ps.all (· != d) = true) (hsz : d < a.tmps.size) (hv : spAt L k = .val d v) : StepU P ops Q (CM w ps) (PhiN w L J) (RNM w.heap.size ps J) k o a wx :=
  mm_val v hd hw (by
    unfold execOp
    rw [ho]
    simp only [hp, Sem.run_bind, hr, Result.andThen_ok, Sem.run_pure]) hC hps hsz hv
theorem mm_bin {k d : Nat} {o : Oper} {a : Act} {wx : World} (op : BinOp) (T : TypeId) (x y : Operand) (t : TypeId) (u v r : Value) (hd : o.dst = some d) (ho : o.op = .binOp op T x y t) (hw : Region.wanted o (yielded ops a.tmps) = true) (hx : a.eval x = u) (hy : a.eval y = v)
    (hg : (eqGuard op T x y u v).run P wx = .ok () wx) (hb : (binOp op T u v).run P wx = .ok r wx) (hC : CM w ps (slots a) wx) (hps : ps.all (· != d) = true) (hsz : d < a.tmps.size) (hv : spAt L k = .val d r) : StepU P ops Q (CM w ps) (PhiN w L J) (RNM w.heap.size ps J) k o a wx :=
  mm_val r hd hw (by
    unfold execOp
    rw [ho]
    simp only [hx, hy, Sem.run_bind, hg, hb, Result.andThen_ok, Sem.run_pure]) hC hps hsz hv
theorem mm_call {k d : Nat} {o : Oper} {a : Act} {wx : World} (f : FuncId) (args : Array Value) (v : Value) (hd : o.dst = some d) (hw : Region.wanted o (yielded ops a.tmps) = true) (he : (execOp a.eval o).run P wx = .ok (.enter f args) wx)
    (hc : Calls P f args wx fun e w' => e = .returned v ∧ Below wx.heap.size wx w') (hC : CM w ps (slots a) wx) (hps : ps.all (· != d) = true) (hsz : d < a.tmps.size) (hv : spAt L k = .val d v) : StepU P ops Q (CM w ps) (PhiN w L J) (RNM w.heap.size ps J) k o a wx :=
  uu_call f args hw he (hc.mono fun e w' hh => ⟨v, hh.1, by rw [hd]; exact ⟨hC.1.trans (hh.2.mono hC.1.size), hC.2.put (ps_other hps) hh.2.size⟩, by rw [hd]; show (spAt L k).at_ w.heap.size J _ _; rw [hv]; exact slots_put _ _ _ hsz, .inl hh.2⟩)
/-- A call whose answer is not known by itself. -/
theorem mm_callx {k d : Nat} {o : Oper} {a : Act} {wx : World} (f : FuncId) (args : Array Value) (g : Value → World → Prop) (hd : o.dst = some d) (hw : Region.wanted o (yielded ops a.tmps) = true) (he : (execOp a.eval o).run P wx = .ok (.enter f args) wx)
    (hc : Calls P f args wx fun e w' => ∃ v, e = .returned v ∧ g v w' ∧ Below wx.heap.size wx w') (hC : CM w ps (slots a) wx) (hps : ps.all (· != d) = true) (hsz : d < a.tmps.size) (hv : spAt L k = .own d g) : StepU P ops Q (CM w ps) (PhiN w L J) (RNM w.heap.size ps J) k o a wx :=
  uu_call f args hw he (hc.mono fun e w' ⟨v, h1, h2, h3⟩ => ⟨v, h1, by rw [hd]; exact ⟨hC.1.trans (h3.mono hC.1.size), hC.2.put (ps_other hps) h3.size⟩, by rw [hd]; show (spAt L k).at_ w.heap.size J _ _; rw [hv]; show g _ _; rw [slots_put _ _ _ hsz]; exact h2, .inl h3⟩)
/-- A fresh block. -/
theorem mm_new {k d : Nat} {o : Oper} {a : Act} {wx : World} (T : TypeId) (z : Array Value) (hd : o.dst = some d) (hw : Region.wanted o (yielded ops a.tmps) = true) (hr : (execOp a.eval o).run P wx = .ok (.value (.pointer (some ⟨wx.heap.size, 0, none⟩))) (wx.alloc (.cells z T))) (hC : CM w ps (slots a) wx) (hz : z.size = (J d).size) (hsz : d < a.tmps.size) (hv : spAt L k = .blk d T) : StepU P ops Q (CM w ps) (PhiN w L J) (RNM w.heap.size ps J) k o a wx := by
  have hb : Below wx.heap.size wx (wx.alloc (.cells z T)) := (Below.refl _ _).alloc (Nat.le_refl _) _
  refine uu_new (.pointer (some ⟨wx.heap.size, 0, none⟩)) hw hr ?_ ?_ (.inl hb)
  · rw [hd]
    exact ⟨hC.1.trans (hb.mono hC.1.size), hC.2.new (slots_put _ _ _ hsz) (fun p _ hne => slots_other _ _ _ _ (Ne.symm hne)) (by simp)⟩
  · rw [hd]
    show (spAt L k).at_ w.heap.size J _ _
    rw [hv]
    exact ⟨_, slots_put _ _ _ hsz, hC.1.size, z, heap_alloc_new _ _, hz⟩
/-- .. and what is laid there. -/
theorem mm_store {k p : Nat} {o : Oper} {a : Act} {wx : World} (T : TypeId) (x y : Operand) (v : Value) (hd : o.dst = none) (ho : o.op = .store T x y) (hw : Region.wanted o (yielded ops a.tmps) = true) (hx : a.eval x = slots a p) (hy : a.eval y = v) (hp : p ∈ ps)
    (hk : (Sp.blk p T).at_ w.heap.size J (slots a) wx) (hr : ∀ D cs, wx.heap[D]? = some (.cells cs T (0, 0)) → cs.size = (J p).size → (Instr.storeAt T (.pointer (some ⟨D, 0, none⟩)) v).run P wx = .ok () (wx.setRow D (J p))) (hC : CM w ps (slots a) wx) (hv : spAt L k = .laid p T) : StepU P ops Q (CM w ps) (PhiN w L J) (RNM w.heap.size ps J) k o a wx := by
  obtain ⟨D, h1, hh, cs, h2, h3⟩ := hk
  refine uu_store (w' := wx.setRow D (J p)) hw hd ?_ ⟨below_setRow hC.1 hh _, hC.2.put (fun _ _ => rfl) (by simp)⟩ ?_ (.inr ⟨p, hp, D, h1, hh, rfl⟩)
  · unfold execOp
    rw [ho]
    simp only [hx, h1, hy, Sem.run_bind, hr D cs h2 h3, Result.andThen_ok, Sem.run_pure]
  · show (spAt L k).at_ w.heap.size J _ _
    rw [hv]
    exact ⟨D, h1, hh, setRow_heap _ _ _ _ _ _ h2⟩
end
end Go.Proofs.YtcmpnnfnkcmpcaaDoor
namespace Go.Proofs.YtcmpnnfnkcmpcaaDoor
open Go.RowKit

theorem arg_to {a : Option Addr} {n cap m : Nat} (hm : m ≤ n) (hc : n ≤ cap) : ∃ a', (∀ w, (Instr.sliceAt 22 (.slice a n cap) none (some (.int .i64 (m : Int))) none).run Tryd.prog w = .ok (.slice a' m cap) w) ∧ ∀ w f, ArgB w (.slice a n cap) n f → ArgB w (.slice a' m cap) m f := by
  have hsz : ∀ w, (sizeOf (Tryd.prog.elem 22)).run Tryd.prog w = .ok 1 w := fun w => by kernel_rfl
  refine ⟨if cap = 0 then a else a.map (·.add 0), fun w => ?_, fun w f h => ?_⟩
  · rw [run_sliceAt_slice (P := Tryd.prog) (w := w) 22 _ _ _ _ (by kernel_rfl), run_slice_h (P := Tryd.prog) w 22 a n cap (by kernel_rfl) .i64 m (by omega) (by omega), hsz]
    simp only [Result.andThen, sliced, Int.toNat_natCast, Nat.sub_zero, Nat.zero_mul]
  · have e : (if cap = 0 then a else a.map (·.add 0)) = a := by
      split
      · rfl
      · cases a with
        | none => rfl
        | some q => simp [Addr.add]
    rw [e]
    obtain ⟨a2, c2, h1, h2, h3, h4⟩ := h
    cases h1
    refine ⟨a, cap, rfl, by omega, h3, ?_⟩
    rcases h4 with h4 | ⟨b, o, h5, h6, h7⟩
    · exact .inl (by omega)
    · exact .inr ⟨b, o, h5, h6, fun j hj => h7 j (by omega)⟩
theorem arg_from {a : Option Addr} {n cap m : Nat} (hm : m ≤ n) (hc : n ≤ cap) : ∃ a', (∀ w, (Instr.sliceAt 22 (.slice a n cap) (some (.int .i64 (m : Int))) none none).run Tryd.prog w = .ok (.slice a' (n - m) (cap - m)) w) ∧ ∀ w f, ArgB w (.slice a n cap) n f → ArgB w (.slice a' (n - m) (cap - m)) (n - m) (fun j => f (m + j)) := by
  have hsz : ∀ w, (sizeOf (Tryd.prog.elem 22)).run Tryd.prog w = .ok 1 w := fun w => by kernel_rfl
  refine ⟨if cap = m then a else a.map (·.add (m * 1)), fun w => ?_, fun w f h => ?_⟩
  · rw [run_sliceAt_slice (P := Tryd.prog) (w := w) 22 _ _ _ _ (by kernel_rfl), run_slice_l (P := Tryd.prog) w 22 a n cap (by kernel_rfl) .i64 m (by omega) (by omega), hsz]
    simp only [Result.andThen, sliced, Int.toNat_natCast]
  · obtain ⟨a2, c2, h1, h2, h3, h4⟩ := h
    cases h1
    by_cases hcm : cap = m
    · rw [if_pos hcm]
      exact ⟨a, cap - m, rfl, by omega, fun h => by omega, .inl (by omega)⟩
    · rw [if_neg hcm]
      refine ⟨_, cap - m, rfl, by omega, fun h => ?_, ?_⟩
      · cases a with
        | none => have := h3 rfl; omega
        | some q => cases h
      · rcases h4 with h4 | ⟨b, o, h5, h6, h7⟩
        · exact .inl (by omega)
        · subst h5
          refine .inr ⟨b, o + m, by simp [Addr.add], h6, fun j hj => ?_⟩
          rw [Nat.add_assoc]
          exact h7 _ (by omega)
theorem arg_sub {a : Option Addr} {n cap l m : Nat} (hl : l + m ≤ n) (hc : n ≤ cap) : ∃ a', (∀ w, (Instr.sliceAt 22 (.slice a n cap) (some (.int .i64 (l : Int))) (some (.int .i64 ((l + m : Nat) : Int))) none).run Tryd.prog w = .ok (.slice a' m (cap - l)) w) ∧ ∀ w f, ArgB w (.slice a n cap) n f → ArgB w (.slice a' m (cap - l)) m (fun j => f (l + j)) := by
  have hsz : ∀ w, (sizeOf (Tryd.prog.elem 22)).run Tryd.prog w = .ok 1 w := fun w => by kernel_rfl
  refine ⟨if cap = l then a else a.map (·.add (l * 1)), fun w => ?_, fun w f h => ?_⟩
  · rw [run_sliceAt_slice (P := Tryd.prog) (w := w) 22 _ _ _ _ (by kernel_rfl), run_slice_lh (P := Tryd.prog) w 22 a n cap (by kernel_rfl) .i64 .i64 l ((l + m : Nat) : Int) (by omega) (by omega) (by omega), hsz]
    simp only [Result.andThen, sliced, Int.toNat_natCast]
    rw [show l + m - l = m by omega]
  · obtain ⟨a2, c2, h1, h2, h3, h4⟩ := h
    cases h1
    by_cases hcm : cap = l
    · rw [if_pos hcm]
      exact ⟨a, cap - l, rfl, by omega, fun h => by omega, .inl (by omega)⟩
    · rw [if_neg hcm]
      refine ⟨_, cap - l, rfl, by omega, fun h => ?_, ?_⟩
      · cases a with
        | none => have := h3 rfl; omega
        | some q => cases h
      · rcases h4 with h4 | ⟨b, o, h5, h6, h7⟩
        · exact .inl (by omega)
        · subst h5
          refine .inr ⟨b, o + l, by simp [Addr.add], h6, fun j hj => ?_⟩
          rw [Nat.add_assoc]
          exact h7 _ (by omega)
/-- The bytes copied: onto an empty list just made. -/
theorem copied {w : World} {D : Nat} {v : Value} {n : Nat} {f : Nat → Nat} (hD : D < w.heap.size) (h : ArgB w v n f) (hn : n ≤ 140737488355328) : ∃ g c w', (Builtin.append_ #[22, 22] 22 #[.slice (some ⟨D, 0, none⟩) 0 0, v]).run Tryd.prog w = .ok (.slice (some ⟨g, 0, none⟩) n c) w' ∧ n ≤ c ∧ g < w'.heap.size ∧ (0 < n → w.heap.size ≤ g) ∧ (∀ j, j < n → w'.cell? ⟨g, 0 + j, none⟩ = some (.int .u8 (f j : Nat))) ∧ Below w.heap.size w w' := by
  obtain ⟨i0, hi, hz0, hz1, hz2⟩ := info_partsB info8
  obtain ⟨a, cap, rfl, hc, hn0, hr⟩ := h
  rcases Nat.eq_zero_or_pos n with rfl | h0
  · refine ⟨D, 0, w, ?_, Nat.le_refl _, hD, fun h => by omega, fun j hj => by omega, Below.refl _ _⟩
    cases a with
    | none =>
      obtain rfl := hn0 rfl
      simp [Builtin.append_, run_underlying Tryd.underlying22, sizeOf, typeInfo, hi, go_sem]
    | some q => simp [Builtin.append_, run_underlying Tryd.underlying22, sizeOf, typeInfo, hi, go_sem]
  · rcases hr with hr | ⟨b, o, rfl, hb, hcell⟩
    · omega
    · have hr := run_append_grow (P := Tryd.prog) (w := w) 22 22 5 i0 (.int .u8 0) Tryd.underlying22 hi hz0 ⟨D, 0, none⟩ 0 0 [] (by simp) (fun j v hj => by simp at hj) ⟨b, o, none⟩ n cap (p8 f n) (by rw [p8_len, hz1, Nat.mul_one]) (p8_news (.inr ⟨b, o, rfl, hb, hcell⟩)) (by omega) (by omega) (by rw [Nat.zero_add, nextslicecap_zero h0, hz2]; omega)
      rw [Nat.zero_add] at hr
      refine ⟨_, _, _, hr, ?_, by simp, fun _ => by simp, fun j hj => ?_, (Below.refl _ _).drew.alloc (Nat.le_refl _) _⟩
      · exact grownCap_ge _ _ _ _
      · refine (cell_of_row _ _ _ _ _ _ (heap_alloc_new w.drew _)).trans ?_
        rw [Nat.zero_add, show ([] : List Value).toArray ++ (p8 f n).toArray = (p8 f n).toArray by simp, Array.getElem?_append_left (by rw [List.size_toArray, p8_len]; exact hj), List.getElem?_toArray]
        exact p8_at f n j hj
theorem run_pick {P : Program} {a : Act} {o : Oper} {w : World} (c x y : Operand) (b : Bool) (r : Value) (ho : o.op = .pick c x y) (hc : a.eval c = .bool b) (hr : (if b = true then a.eval x else a.eval y) = r) : (execOp a.eval o).run P w = .ok (.value r) w := by
  unfold execOp
  rw [ho]
  simp [asBool, hc, hr, Sem.run_pure]
theorem arr_litT (t : Array Value) : t = ((List.range t.size).map fun i => t.getD i undef).toArray := by
  apply Array.ext
  · simp
  · intro i h1 h2
    simp [h1]
def SlB (n : Nat) (f : Nat → Nat) (u : Value) (wx : World) : Prop := ∃ g c, u = .slice (some ⟨g, 0, none⟩) n c ∧ n ≤ c ∧ g < wx.heap.size ∧ ∀ j, j < n → wx.cell? ⟨g, 0 + j, none⟩ = some (.int .u8 (f j : Nat))
theorem SlB.below {n : Nat} {f : Nat → Nat} {u : Value} {wa wb : World} (hb : Below wa.heap.size wa wb) (h : SlB n f u wa) : SlB n f u wb := by
  obtain ⟨g, c, h1, h2, h3, h4⟩ := h
  exact ⟨g, c, h1, h2, Nat.lt_of_lt_of_le h3 hb.size, fun j hj => (hb.cell (p := ⟨g, 0 + j, none⟩) h3).trans (h4 j hj)⟩
def EmB (u : Value) (wx : World) : Prop := ∃ D, u = .slice (some ⟨D, 0, none⟩) 0 0 ∧ D < wx.heap.size
theorem EmB.below {u : Value} {wa wb : World} (hb : Below wa.heap.size wa wb) (h : EmB u wa) : EmB u wb := by
  obtain ⟨D, h1, h2⟩ := h
  exact ⟨D, h1, Nat.lt_of_lt_of_le h2 hb.size⟩
theorem run_app {a : Act} {o : Oper} {w w' : World} (s y : Operand) (vs vy v' : Value) (ho : o.op = .call { callee := .builtin .append, args := #[s, y], argTypes := #[22, 22] }) (hty : o.type = 22) (hs : a.eval s = vs) (hy : a.eval y = vy)
    (hr : (Builtin.append_ #[22, 22] 22 #[vs, vy]).run Tryd.prog w = .ok v' w') : (execOp a.eval o).run Tryd.prog w = .ok (.value v') w' := by
  unfold execOp
  simp only [ho, hty, resolve, invoke, builtin, Sem.run_bind, Sem.run_pure, Result.andThen_ok, List.map_toArray, List.map_cons, List.map_nil, hs, hy, hr]
section
variable {P : Program} {ops : Array Oper} {Q : Exit → Act → World → Prop}
variable {w : World} {L : List Sp} {ps : List Nat} {J : Nat → Array Value}
/-- A step that makes memory, its answer not known by itself. -/
theorem mm_grow {k d : Nat} {o : Oper} {a : Act} {wx : World} (v : Value) (w' : World) (g : Value → World → Prop) (hd : o.dst = some d) (hw : Region.wanted o (yielded ops a.tmps) = true) (hr : (execOp a.eval o).run P wx = .ok (.value v) w') (hb : Below wx.heap.size wx w') (hg : g v w')
    (hC : CM w ps (slots a) wx) (hps : ps.all (· != d) = true) (hsz : d < a.tmps.size) (hv : spAt L k = .own d g) : StepU P ops Q (CM w ps) (PhiN w L J) (RNM w.heap.size ps J) k o a wx :=
  uu_new v hw hr (by rw [hd]; exact ⟨hC.1.trans (hb.mono hC.1.size), hC.2.put (ps_other hps) hb.size⟩) (by rw [hd]; show (spAt L k).at_ w.heap.size J _ _; rw [hv]; show g _ _; rw [slots_put _ _ _ hsz]; exact hg) (.inl hb)
end
/-- Numbers of 16 bits among the arguments of a call. -/
def Arg16 (w : World) (v : Value) (n : Nat) (g : Nat → Nat) : Prop := ∃ (a : Option Addr) (cap : Nat), v = .slice a n cap ∧ n ≤ cap ∧ (n = 0 ∨ ∃ b o, a = some ⟨b, o, none⟩ ∧ b < w.heap.size ∧ ∀ j, j < n → w.cell? ⟨b, o + j, none⟩ = some (.int .u16 (g j : Nat)))
end Go.Proofs.YtcmpnnfnkcmpcaaDoor
namespace Go.Proofs.YtcmpnnfnkcmpcaaDoor
open Go.ChangeShapes Go.WideShapes Go.ChangeAt Go.RowKit

theorem cellsU16 : Tryd.prog.cellsOf 30 = 1 := by kernel_rfl
theorem range_u16 {zs : List Int} (hw : ∀ n ∈ zs, (Lit.int .u16 n).wf = true) (j : Nat) : 0 ≤ zs.getD j 0 ∧ zs.getD j 0 ≤ 65535 := by
  rcases Nat.lt_or_ge j zs.length with h | h
  · have h1 := hw (zs.getD j 0) (by rw [List.getD_eq_getElem?_getD, List.getElem?_eq_getElem h]; exact List.getElem_mem h)
    simpa [Lit.wf, IntKind.min, IntKind.max, IntKind.signed, IntKind.bits] using h1
  · rw [List.getD_eq_getElem?_getD, List.getElem?_eq_none h]
    decide
set_option maxRecDepth 100000 in
/-- NUMBERS OF 16 BITS AMONG THE ARGUMENTS. -/
theorem open_u16S {H : Type} {enc : TypeId × Value → H} {W : World} {base b2 : Nat} {hd : Bool} {v : Value} {d : DataW H} {ps : List MemPlace}
    (hv : Value.okWide Tryd.prog W .any base 23 v) (h : DataW.Trod enc Tryd.prog W b2 (fun _ => true) hd 23 v d ps) :
    ∃ (n : Nat) (f : Nat → Nat), Arg16 W v n f ∧ (∀ j, f j < 65536) ∧ (n = 0 ∨ ∃ l s, d = .slice l s ∧ l.length = n) := by
  obtain ⟨a0, len, cap, rfl⟩ := okWide_slice Tryd.underlying23 hv
  obtain ⟨fuel, hf⟩ := h
  rcases open_ints Tryd.underlying23 Tryd.underlying30 cellsU16 hf with ⟨hcs, -⟩ | ⟨a, len', cap', zs, hcs, -, hl, hm, hz, hx, hcell, hwz⟩
  · simp [Value.cells] at hcs
    obtain ⟨rfl, rfl, rfl⟩ := hcs
    exact ⟨0, fun _ => 0, ⟨none, 0, rfl, Nat.le_refl _, .inl rfl⟩, fun j => (by show (0 : Nat) < 65536; omega), .inl rfl⟩
  · simp [Value.cells] at hcs
    obtain ⟨rfl, rfl, rfl⟩ := hcs
    simp only [if_true] at hz
    have hr := fun j => range_u16 hwz j
    have hd' : d = .slice (lits .u16 (zs.take len)) (lits .u16 (zs.drop len)) := congrArg Prod.fst hx
    refine ⟨len, fun j => (zs.getD j 0).toNat, ⟨some a, cap, rfl, hl, ?_⟩, fun j => ?_, .inr ⟨_, _, hd', by rw [lits_len, List.length_take]; omega⟩⟩
    · rcases Nat.eq_zero_or_pos len with h0 | h0
      · exact .inl h0
      · obtain ⟨ab, ao, spot⟩ := a
        have hspot : spot = none := by simpa [Addr.add] using World.cell?_spot (hcell 0 (by omega))
        subst hspot
        refine .inr ⟨ab, ao, rfl, by simpa [Addr.add] using World.block_lt_of_cell? W _ (hcell 0 (by omega)), fun j hj => ?_⟩
        have hc := hcell j (by omega)
        rw [Addr.add_lit] at hc
        rw [hc]
        have h1 := hr j
        show _ = some (Value.int .u16 (((zs.getD j 0).toNat : Nat) : Int))
        rw [Int.toNat_of_nonneg h1.1]
    · have h1 := hr j
      show (zs.getD j 0).toNat < 65536
      omega
end Go.Proofs.YtcmpnnfnkcmpcaaDoor
namespace Go.Proofs.YtcmpnnfnkcmpcaaDoor
open Go.RowKit

/-- n bytes, and what ends them: L in all. -/
def kpd (f : Nat → Nat) (n L j : Nat) : Nat := if j < n then f j else if j = n then (if j + 1 = L then 129 else 1) else if j + 1 = L then 128 else 0
/-- The same, ahead of the last. -/
def kpg (f : Nat → Nat) (n j : Nat) : Nat := if j < n then f j else if j = n then 1 else 0
theorem kpg_f {f : Nat → Nat} {n j : Nat} (h : j < n) : kpg f n j = f j := by unfold kpg; rw [if_pos h]
theorem kpg_n (f : Nat → Nat) (n : Nat) : kpg f n n = 1 := by unfold kpg; rw [if_neg (by omega), if_pos rfl]
theorem kpg_0 {f : Nat → Nat} {n j : Nat} (h : n < j) : kpg f n j = 0 := by unfold kpg; rw [if_neg (by omega), if_neg (by omega)]
theorem kpd_lt {f : Nat → Nat} {n L : Nat} (hf : ∀ j, f j < 256) (j : Nat) : kpd f n L j < 256 := by
  unfold kpd
  split
  · exact hf _
  · split
    · split <;> omega
    · split <;> omega
theorem kpd_kpg {f : Nat → Nat} {n L j : Nat} (h : j + 1 < L) : kpd f n L j = kpg f n j := by
  unfold kpd kpg
  rw [if_neg (show ¬ j + 1 = L by omega), if_neg (show ¬ j + 1 = L by omega)]
theorem kpd_last {f : Nat → Nat} {n L : Nat} (h : n + 1 ≤ L) : bits .xor .u8 ((kpg f n (L - 1) : Nat) : Int) 128 = ((kpd f n L (L - 1) : Nat) : Int) := by
  by_cases e : L - 1 = n
  · rw [e, kpg_n]
    unfold kpd
    rw [if_neg (by omega), if_pos rfl, if_pos (by omega)]
    decide +kernel
  · rw [kpg_0 (by omega)]
    unfold kpd
    rw [if_neg (by omega), if_neg e, if_pos (by omega)]
    decide +kernel
theorem ab_congr {f g : Nat → Nat} : ∀ {m : Nat}, (∀ j, j < m → f j = g j) → ab f m = ab g m
  | 0, _ => rfl
  | m + 1, h => by
    rw [ab, ab, ab_congr (fun j hj => h j (by omega)), h m (by omega)]
theorem xby_0 {v : Nat → Int} (hv : ∀ i, i < 25 → 0 ≤ v i ∧ v i < 18446744073709551616) (p : Nat) (hp : p < 136) : xby v p 0 = v := by
  funext i
  unfold xby updI
  by_cases h : i = p / 8
  · subst h
    have hr := hv (p / 8) (by omega)
    rw [if_pos rfl, Nat.zero_mul, kxor, IntKind.wrap_u64, show (((0 : Nat) : Int) % 18446744073709551616).toNat = 0 from rfl, Nat.xor_zero]
    omega
  · rw [if_neg h]
theorem xasc (a b c : Int) : bits .xor .u64 (bits .xor .u64 a b) c = bits .xor .u64 a (bits .xor .u64 b c) := by
  refine bi_inj (kxor_rng _ _) (kxor_rng _ _) fun z hz => ?_
  simp only [bi_xor]
  cases bi a z <;> cases bi b z <;> cases bi c z <;> rfl
theorem xby_two (v : Nat → Int) : xby (xby v 135 1) 135 128 = xby v 135 129 := by
  funext i
  unfold xby updI
  by_cases h : i = 135 / 8
  · rw [if_pos h, if_pos h, if_pos rfl, xasc]
    congr 1
  · rw [if_neg h, if_neg h, if_neg h]
theorem ab_pad (f : Nat → Nat) (n L : Nat) (hL : L % 136 = 0) (h1 : n + 1 ≤ L) (h2 : L < n + 137) : ab (kpd f n L) L = fin f n := by
  have hc : ab (kpd f n L) n = ab f n := ab_congr fun j hj => by unfold kpd; rw [if_pos hj]
  obtain ⟨M, rfl⟩ : ∃ M, L = M + 1 := ⟨L - 1, by omega⟩
  have hM : M % 136 = 135 := by omega
  unfold fin
  rw [ab, if_pos hL, hM]
  congr 1
  by_cases e : M = n
  · subst e
    have hk : kpd f M (M + 1) M = 129 := by unfold kpd; rw [if_neg (by omega), if_pos rfl, if_pos rfl]
    rw [hc, hk, hM, xby_two]
  · have hk : kpd f n (M + 1) M = 128 := by unfold kpd; rw [if_neg (by omega), if_neg e, if_pos rfl]
    rw [hk]
    have hz : ∀ t, n + 1 + t ≤ M → ab (kpd f n (M + 1)) (n + 1 + t) = xby (ab f n) (n % 136) 1 := by
      intro t
      induction t with
      | zero =>
        intro _
        rw [Nat.add_zero, ab, if_neg (by omega), hc, show kpd f n (M + 1) n = 1 from by unfold kpd; rw [if_neg (by omega), if_pos rfl, if_neg (by omega)]]
      | succ t ih =>
        intro ht
        rw [show n + 1 + (t + 1) = (n + 1 + t) + 1 by omega, ab, if_neg (by omega), ih (by omega), show kpd f n (M + 1) (n + 1 + t) = 0 from by unfold kpd; rw [if_neg (by omega), if_neg (by omega), if_neg (by omega)]]
        exact xby_0 (xby_rng (ab_rng f n) _ _) _ (Nat.mod_lt _ (by decide))
    have h := hz (M - (n + 1)) (by omega)
    rw [show n + 1 + (M - (n + 1)) = M by omega] at h
    rw [h]
theorem kz25 : ar .u64 25 (fun _ => 0) = #[.int .u64 0, .int .u64 0, .int .u64 0, .int .u64 0, .int .u64 0, .int .u64 0, .int .u64 0, .int .u64 0, .int .u64 0, .int .u64 0, .int .u64 0, .int .u64 0, .int .u64 0, .int .u64 0, .int .u64 0, .int .u64 0, .int .u64 0, .int .u64 0, .int .u64 0, .int .u64 0, .int .u64 0, .int .u64 0, .int .u64 0, .int .u64 0, .int .u64 0] := by kernel_rfl
theorem kz25v : (.agg #[.int .u64 0, .int .u64 0, .int .u64 0, .int .u64 0, .int .u64 0, .int .u64 0, .int .u64 0, .int .u64 0, .int .u64 0, .int .u64 0, .int .u64 0, .int .u64 0, .int .u64 0, .int .u64 0, .int .u64 0, .int .u64 0, .int .u64 0, .int .u64 0, .int .u64 0, .int .u64 0, .int .u64 0, .int .u64 0, .int .u64 0, .int .u64 0, .int .u64 0] : Value) = .agg (ar .u64 25 fun _ => 0) := by rw [kz25]
theorem kz32 : ar .u8 32 (fun _ => 0) = #[.int .u8 0, .int .u8 0, .int .u8 0, .int .u8 0, .int .u8 0, .int .u8 0, .int .u8 0, .int .u8 0, .int .u8 0, .int .u8 0, .int .u8 0, .int .u8 0, .int .u8 0, .int .u8 0, .int .u8 0, .int .u8 0, .int .u8 0, .int .u8 0, .int .u8 0, .int .u8 0, .int .u8 0, .int .u8 0, .int .u8 0, .int .u8 0, .int .u8 0, .int .u8 0, .int .u8 0, .int .u8 0, .int .u8 0, .int .u8 0, .int .u8 0, .int .u8 0] := by kernel_rfl
theorem kz32v : (.agg #[.int .u8 0, .int .u8 0, .int .u8 0, .int .u8 0, .int .u8 0, .int .u8 0, .int .u8 0, .int .u8 0, .int .u8 0, .int .u8 0, .int .u8 0, .int .u8 0, .int .u8 0, .int .u8 0, .int .u8 0, .int .u8 0, .int .u8 0, .int .u8 0, .int .u8 0, .int .u8 0, .int .u8 0, .int .u8 0, .int .u8 0, .int .u8 0, .int .u8 0, .int .u8 0, .int .u8 0, .int .u8 0, .int .u8 0, .int .u8 0, .int .u8 0, .int .u8 0] : Value) = .agg (ar .u8 32 fun _ => 0) := by rw [kz32]
theorem ixB8 (g L c x : Nat) (h : x < L) (w : World) : (Instr.indexAt 22 (.slice (some ⟨g, 0, none⟩) L c) (.int .i64 (x : Nat))).run Tryd.prog w = .ok (.pointer (some ⟨g, x, none⟩)) w := by
  have h0 : (0 : Int) ≤ x := by omega
  have h1 : (x : Int) < L := by omega
  go_simp
theorem kloadb (g j : Nat) (y : Int) (w : World) (h : w.cell? ⟨g, j, none⟩ = some (.int .u8 y)) : (Instr.loadAt 5 (.pointer (some ⟨g, j, none⟩))).run Tryd.prog w = .ok (.int .u8 y) w := by
  go_simp
theorem cvu (x : Nat) (hx : x < 1000) (w : World) : (convert 3 43 (.int .i64 (x : Nat))).run Tryd.prog w = .ok (.int .u64 (x : Nat)) w := by
  have e2 : IntKind.u64.wrap (x : Int) = x := by rw [IntKind.wrap_u64]; omega
  go_simp
theorem shl8u (x s : Nat) (hx : x < 256) (hs : s ≤ 56) (w : World) : (binOp BinOp.shl 34 (.int .u64 (x : Nat)) (.int .u64 (s : Nat))).run Tryd.prog w = .ok (.int .u64 (x * 2 ^ s : Nat)) w := by
  have hl := up_lt hx hs
  obtain ⟨X, hX⟩ : ∃ X, x * 2 ^ s = X := ⟨_, rfl⟩
  rw [hX] at hl ⊢
  have e0 : (x : Int) * 2 ^ s = (X : Int) := by rw [← hX, Int.natCast_mul, Int.natCast_pow]; rfl
  have e1 : (X : Int) % 18446744073709551616 = (X : Int) := by omega
  have e3 : IntKind.u64.wrap (X : Int) = (X : Int) := by rw [IntKind.wrap_u64]; omega
  have hs0 : (0 : Int) ≤ s := by omega
  have hs1 : (s : Int) < 64 := by omega
  go_simp
/-- The worlds while the bytes are laid over the state. -/
structure CS (w : World) (g G L : Nat) (E : Nat → Nat) (v : Nat → Int) (wx : World) : Prop where
  old : Below w.heap.size w wx
  r0 : wx.heap[w.heap.size]? = some (.cells #[.int .u8 0, .int .u8 0, .int .u8 0, .int .u8 0, .int .u8 0, .int .u8 0, .int .u8 0, .int .u8 0, .int .u8 0, .int .u8 0, .int .u8 0, .int .u8 0, .int .u8 0, .int .u8 0, .int .u8 0, .int .u8 0, .int .u8 0, .int .u8 0, .int .u8 0, .int .u8 0, .int .u8 0, .int .u8 0, .int .u8 0, .int .u8 0, .int .u8 0, .int .u8 0, .int .u8 0, .int .u8 0, .int .u8 0, .int .u8 0, .int .u8 0, .int .u8 0] 25 (0, 0))
  by8 : ∀ j, j < L → wx.cell? ⟨g, j, none⟩ = some (.int .u8 (E j : Nat))
  rG : wx.heap[G]? = some (.cells (ar .u64 25 v) 35 (0, 0))
  hg : w.heap.size < g
  hG : g < G
section
variable {w wx w' : World} {g G L : Nat} {E : Nat → Nat} {v : Nat → Int}
theorem CS.drew (c : CS w g G L E v wx) : CS w g G L E v wx.drew := ⟨c.old.drew, c.r0, c.by8, c.rG, c.hg, c.hG⟩
theorem CS.below (c : CS w g G L E v wx) (hb : Below wx.heap.size wx w') : CS w g G L E v w' := by
  have l := (Array.getElem?_eq_some_iff.1 c.rG).1
  have l2 := c.hG
  have l3 := c.hg
  exact ⟨c.old.trans (hb.mono c.old.size), (hb.block _ (by omega)).trans c.r0, fun j hj => (hb.cell (p := ⟨g, j, none⟩) (by show g < wx.heap.size; omega)).trans (c.by8 j hj), (hb.block _ l).trans c.rG, l3, l2⟩
theorem CS.ldG (c : CS w g G L E v wx) (x : Nat) (hx : x < 25) (z : Int) (hz : v x = z) : (Instr.loadAt 34 (.pointer (some ⟨G, x, none⟩))).run Tryd.prog wx = .ok (.int .u64 z) wx :=
  kload _ _ _ _ (by rw [← hz]; exact (cell_of_row wx _ _ _ _ _ c.rG).trans (ar_at _ _ _ _ hx))
theorem CS.set (c : CS w g G L E v wx) (x : Nat) (hx : x < 25) (z : Int) : CS w g G L E (updI v x z) (wx.setCell ⟨G, x, none⟩ (.int .u64 z)) := by
  have l2 := c.hG
  have l3 := c.hg
  exact ⟨c.old.setCell (by show w.heap.size ≤ G; omega) _, (heap_setCell_other _ _ _ _ (by show w.heap.size ≠ G; omega)).trans c.r0, fun j hj => (World.cell?_of_block (w := wx) (heap_setCell_other _ _ _ _ (by show g ≠ G; omega))).trans (c.by8 j hj), (heap_setCell_same _ _ _ _ _ _ c.rG).trans (by rw [ar_set _ _ _ _ _ hx]), l3, l2⟩
theorem CS.row (c : CS w g G L E v wx) (u : Nat → Int) : CS w g G L E u (wx.setRow G (ar .u64 25 u)) := by
  have l2 := c.hG
  have l3 := c.hg
  exact ⟨below_setRow c.old (by omega) _, (setRow_other _ _ _ _ (by omega)).trans c.r0, fun j hj => (World.cell?_of_block (w := wx) (setRow_other _ _ _ _ (show g ≠ G by omega))).trans (c.by8 j hj), setRow_heap _ _ _ _ _ _ c.rG, l3, l2⟩
end
/-- The worlds while the hash is told. -/
structure CO (w : World) (G O : Nat) (v h : Nat → Int) (wx : World) : Prop where
  old : Below w.heap.size w wx
  r0 : wx.heap[w.heap.size]? = some (.cells #[.int .u8 0, .int .u8 0, .int .u8 0, .int .u8 0, .int .u8 0, .int .u8 0, .int .u8 0, .int .u8 0, .int .u8 0, .int .u8 0, .int .u8 0, .int .u8 0, .int .u8 0, .int .u8 0, .int .u8 0, .int .u8 0, .int .u8 0, .int .u8 0, .int .u8 0, .int .u8 0, .int .u8 0, .int .u8 0, .int .u8 0, .int .u8 0, .int .u8 0, .int .u8 0, .int .u8 0, .int .u8 0, .int .u8 0, .int .u8 0, .int .u8 0, .int .u8 0] 25 (0, 0))
  rG : wx.heap[G]? = some (.cells (ar .u64 25 v) 35 (0, 0))
  rO : wx.heap[O]? = some (.cells (ar .u8 32 h) 25 (0, 0))
  hG : w.heap.size < G
  hO : G < O
theorem CO.set {w wx : World} {G O : Nat} {v h : Nat → Int} (c : CO w G O v h wx) (x : Nat) (hx : x < 32) (z : Int) : CO w G O v (updI h x z) (wx.setCell ⟨O, x, none⟩ (.int .u8 z)) := by
  have l2 := c.hG
  have l3 := c.hO
  exact ⟨c.old.setCell (by show w.heap.size ≤ O; omega) _, (heap_setCell_other _ _ _ _ (by show w.heap.size ≠ O; omega)).trans c.r0, (heap_setCell_other _ _ _ _ (by show G ≠ O; omega)).trans c.rG, (heap_setCell_same _ _ _ _ _ _ c.rO).trans (by rw [ar_set _ _ _ _ _ hx]), l2, l3⟩
/-- A byte of one's own turned. -/
theorem own_set {w : World} {base n g c x : Nat} {f : Nat → Nat} {z : Nat} (h : w.ownsRow base 5 1 (.slice (some ⟨g, 0, none⟩) n c) n (p8 f n)) (hx : x < n) :
    w.frozen? ⟨g, x, none⟩ = false ∧ ∀ j, j < n → (w.setCell ⟨g, x, none⟩ (.int .u8 (z : Nat))).cell? ⟨g, j, none⟩ = some (.int .u8 ((if j = x then z else f j : Nat) : Int)) := by
  rcases h.2 with ⟨h1, h2⟩ | ⟨g', cap, cur, h1, hb, hc, hnc, hm, hcs, ht⟩
  · cases h1
  · injection h1 with h1
    injection h1 with h1
    injection h1 with h1
    subst h1
    refine ⟨frozen_of_row _ _ _ _ _ hc, fun j hj => ?_⟩
    have hs : (w.setCell ⟨g, x, none⟩ (.int .u8 (z : Nat))).heap[g]? = some (.cells (cur.setIfInBounds x (.int .u8 (z : Nat))) 5 (0, 0)) := heap_setCell_same _ _ _ _ _ _ hc
    refine (cell_of_row _ _ j _ _ _ hs).trans ?_
    have hcur : cur[j]? = some (.int .u8 (f j : Nat)) := by
      have h3 := congrArg (·[j]?) ht
      simp only [Nat.mul_one, List.getElem?_take, hj, if_true] at h3
      rw [← Array.getElem?_toList, h3, p8_at _ _ _ hj]
    have hsz : j < cur.size := (Array.getElem?_eq_some_iff.1 hcur).1
    by_cases e : j = x
    · subst e
      rw [if_pos rfl]
      simp [hsz]
    · rw [if_neg e, Array.getElem?_setIfInBounds_ne (by omega)]
      exact hcur
theorem own_below8 {base : Nat} {w w2 w3 : World} {v : Value} {n : Nat} {xs : List Value} {o : Obj} (hown : w2.ownsRow base 5 1 v n xs) (hb : Below base w w2) (hbs : base ≤ w2.heap.size) (hg : (w2.alloc o).grownBy w3 v.ownBlock) : Below base w w3 :=
  (hb.alloc hbs _).grown hg (by simp; omega) (fun j hj => (hown.lt j hj).1)
set_option maxRecDepth 100000 in
set_option maxHeartbeats 8000000 in
-- WHAT THE REFERENCE'S Sum COMES TO.
theorem krsum {n : Nat} {f : Nat → Nat} {v : Value} {w : World} (hn : n < 1048577) (hf : ∀ j, f j < 256) (hP : ArgB w v n f) : Calls Tryd.prog 8 #[v] w fun e w' => e = .returned (.agg (ar .u8 32 (ksh f n))) ∧ Below w.heap.size w w' := by
  have HP := Lib.hid hP
  obtain ⟨ad, cap, rfl, hc, -, -⟩ := hP
  have HF := Lib.hid hf; clear hf
  obtain ⟨i0, hi, hz0, hz1, hz2⟩ := info_partsB info8
  have HI : ∀ f, Hid ((Tryd.prog.info? 35).map (·.size) = some (ar .u64 25 f).size) := fun f => Lib.hid (by rw [ar_size]; exact infoP)
  have HJ : ∀ f, Hid ((Tryd.prog.info? 25).map (·.size) = some (ar .u8 32 f).size) := fun f => Lib.hid (by rw [ar_size]; exact info32)
  obtain ⟨L, hL⟩ : ∃ L, 136 * (n / 136 + 1) = L := ⟨_, rfl⟩
  have hL1 : L % 136 = 0 := by omega
  have hL2 : n + 1 ≤ L := by omega
  have hL3 : L < n + 137 := by omega
  have HK := Lib.hid (show ksh f n = byt (ab (kpd f n L) L) from by rw [ab_pad f n L hL1 hL2 hL3]; rfl)
  clear hL
  go_enter Tryd.func8, Tryd.ntmps8
  obtain ⟨w0, hw0⟩ : ∃ w0, w.alloc (.cells #[.int .u8 0, .int .u8 0, .int .u8 0, .int .u8 0, .int .u8 0, .int .u8 0, .int .u8 0, .int .u8 0, .int .u8 0, .int .u8 0, .int .u8 0, .int .u8 0, .int .u8 0, .int .u8 0, .int .u8 0, .int .u8 0, .int .u8 0, .int .u8 0, .int .u8 0, .int .u8 0, .int .u8 0, .int .u8 0, .int .u8 0, .int .u8 0, .int .u8 0, .int .u8 0, .int .u8 0, .int .u8 0, .int .u8 0, .int .u8 0, .int .u8 0, .int .u8 0] 25) = w0 := ⟨_, rfl⟩
  have hb0 : Below w.heap.size w w0 := by rw [← hw0]; exact (Below.refl _ _).alloc (Nat.le_refl _) _
  have hr0 : w0.heap[w.heap.size]? = some (.cells #[.int .u8 0, .int .u8 0, .int .u8 0, .int .u8 0, .int .u8 0, .int .u8 0, .int .u8 0, .int .u8 0, .int .u8 0, .int .u8 0, .int .u8 0, .int .u8 0, .int .u8 0, .int .u8 0, .int .u8 0, .int .u8 0, .int .u8 0, .int .u8 0, .int .u8 0, .int .u8 0, .int .u8 0, .int .u8 0, .int .u8 0, .int .u8 0, .int .u8 0, .int .u8 0, .int .u8 0, .int .u8 0, .int .u8 0, .int .u8 0, .int .u8 0, .int .u8 0] 25 (0, 0)) := by rw [← hw0]; exact heap_alloc_new _ _
  have hs0 : w0.heap.size = w.heap.size + 1 := by rw [← hw0]; simp
  have H0 := Lib.hid (And.intro hb0 (And.intro hr0 hs0))
  clear hb0 hr0
  have hmade := World.ownsRow_made (base := w0.heap.size) (e := 5) (size := 1) w0 #[] 0 (by simp) (by decide) (by simp)
  have ha : Below w0.heap.size w0 (w0.alloc (.cells #[] 5)) := (Below.refl _ _).alloc (Nat.le_refl _) _
  obtain ⟨v', w', hr, hown, hs, hg⟩ := copy_own (k := 0) (g := fun _ => 0) (by simpa [p8] using hmade) ⟨_, _, rfl⟩ ((HP.out.below (H0.out.1.trans (Below.refl _ _))).below ha) (by omega) (by simp) 22
  rw [Nat.zero_add] at hown
  have hb := ha.grown hg (by simp) (fun j hj => by cases hj; exact Nat.le_refl _)
  have HO : Hid (Own8 w0.heap.size f n v' w' ∧ Below w0.heap.size w0 w') := Lib.hid ⟨by simpa [Own8, p8] using hown, hb⟩
  obtain ⟨gg, cc, hvv⟩ := hs
  rw [Nat.zero_add] at hvv
  subst hvv
  have HR := Lib.hid (show (Builtin.append_ #[22, 22] 22 #[.slice (some ⟨w.heap.size + 1, 0, none⟩) 0 0, .slice ad n cap]).run Tryd.prog ((w.alloc (.cells #[.int .u8 0, .int .u8 0, .int .u8 0, .int .u8 0, .int .u8 0, .int .u8 0, .int .u8 0, .int .u8 0, .int .u8 0, .int .u8 0, .int .u8 0, .int .u8 0, .int .u8 0, .int .u8 0, .int .u8 0, .int .u8 0, .int .u8 0, .int .u8 0, .int .u8 0, .int .u8 0, .int .u8 0, .int .u8 0, .int .u8 0, .int .u8 0, .int .u8 0, .int .u8 0, .int .u8 0, .int .u8 0, .int .u8 0, .int .u8 0, .int .u8 0, .int .u8 0] 25)).alloc (.cells #[] 5)) = .ok (.slice (some ⟨gg, 0, none⟩) n cc) w' from by rw [hw0, ← hs0]; exact hr)
  clear hw0 hmade ha hr hown hg hb
  have hbs : w.heap.size + 1 ≤ w'.heap.size := by have h1 := HO.out.2.size; have h2 := H0.out.2.2; omega
  go_wp2_with (first | (at_builtin; refine Go.Lib.wpList_append_run _ rfl _ _ 22 22 rfl _ _ rfl rfl _ _ HR.out ?_) | ((at_builtin; refine wpList_append_lies _ rfl _ _ 22 rfl w0.heap.size 5 i0 (.int .u8 0) 1 1 Tryd.underlying22 hi hz0 hz1 hz2 rfl (by decide) _ (n) (p8 f n) rfl (World.ownsRow.alloc HO.out.1 _) ⟨w'.heap.size, 0, none⟩ 1 1 [.int .u8 1] rfl rfl (cell_one_new _ _ _) (by intro u hu; simp at hu; subst hu; rfl) (by omega) (by unfold maxLen; omega) (by omega) (by simp; omega) (w'.heap.size + 1) (by simp) ?_; intro g2 c2 w3 hown3 hgrow hat hlt3; (have hb3 := own_below8 HO.out.1 HO.out.2 HO.out.2.size hgrow); (rw [p8_snoc f (kpg f n) n 1 (fun j hj => (kpg_f hj).symm) (by rw [kpg_n]; rfl)] at hown3); (have HQ := Lib.hid (And.intro hown3 hb3)); clear hgrow hat hlt3 hown3 hb3 HO)))
  clear HR HP hc
  go_loopw [3] (fun v wr => ∃ c : Nat, n + 1 ≤ c ∧ c ≤ L ∧ (∃ g q, v = .slice (some ⟨g, 0, none⟩) c q) ∧ Hid (Own8 w0.heap.size (kpg f n) c v wr ∧ Below w0.heap.size w0 wr)) (fun v _ => match v with | .slice _ c _ => L - c | _ => 0)
  case atStart => exact ⟨n + 1, by omega, by omega, ⟨_, _, rfl⟩, HQ⟩
  case round =>
    obtain ⟨c, hc1, hc2, ⟨g, q, rfl⟩, H⟩ := hrel
    have hbs : w.heap.size + 1 ≤ wr.heap.size := by have h1 := H.out.2.size; have h2 := H0.out.2.2; omega
    have hc0 : (0 : Int) ≤ c := by omega
    clear HQ
    by_cases h : c = L
    · subst h
      have ht : ((c : Int) % 136 != 0) = false := by simp; omega
      obtain ⟨M, hM⟩ : ∃ M, c - 1 = M := ⟨_, rfl⟩
      have hM1 : (c : Int) - 1 = (M : Int) := by omega
      have hMc : M < c := by omega
      have hM0 : (0 : Int) ≤ M := by omega
      have hMi : (M : Int) < c := by omega
      have hwM : IntKind.i64.wrap (M : Int) = (M : Int) := by rw [IntKind.wrap_i64]; omega
      have HOS := own_set (z := kpd f n c M) H.out.1 hMc
      have cM := (H.out.1.cellAt M (by omega)).trans (p8_at _ _ _ hMc)
      have fM := HOS.1
      have hxx : bits .xor .u8 ((kpg f n M : Nat) : Int) 128 = ((kpd f n c M : Nat) : Int) := by rw [← hM]; exact kpd_last hc1
      obtain ⟨y0, hy0⟩ : ∃ y, kpg f n M = y := ⟨_, rfl⟩
      obtain ⟨y1, hy1⟩ : ∃ y, kpd f n c M = y := ⟨_, rfl⟩
      rw [hy0] at cM hxx
      rw [hy1] at hxx HOS
      have hgl := H.out.1.lt g rfl
      have HG := Lib.hid (show w.heap.size < g ∧ g < wr.heap.size ∧ (∀ j, j < c → (wr.setCell ⟨g, M, none⟩ (.int .u8 (y1 : Nat))).cell? ⟨g, j, none⟩ = some (.int .u8 (kpd f n c j : Nat))) ∧ Below w.heap.size w (wr.setCell ⟨g, M, none⟩ (.int .u8 (y1 : Nat))) ∧ (wr.setCell ⟨g, M, none⟩ (.int .u8 (y1 : Nat))).heap[w.heap.size]? = some (.cells #[.int .u8 0, .int .u8 0, .int .u8 0, .int .u8 0, .int .u8 0, .int .u8 0, .int .u8 0, .int .u8 0, .int .u8 0, .int .u8 0, .int .u8 0, .int .u8 0, .int .u8 0, .int .u8 0, .int .u8 0, .int .u8 0, .int .u8 0, .int .u8 0, .int .u8 0, .int .u8 0, .int .u8 0, .int .u8 0, .int .u8 0, .int .u8 0, .int .u8 0, .int .u8 0, .int .u8 0, .int .u8 0, .int .u8 0, .int .u8 0, .int .u8 0, .int .u8 0] 25 (0, 0)) from by
        have h2 := H0.out.2.2
        refine ⟨by omega, hgl.2, fun j hj => ?_, (H0.out.1.trans (H.out.2.mono (by omega))).setCell (by show w.heap.size ≤ g; omega) _, (heap_setCell_other _ _ _ _ (by show w.heap.size ≠ g; omega)).trans ((H.out.2.block _ (by omega)).trans H0.out.2.1)⟩
        rw [HOS.2 j hj]
        by_cases e : j = M
        · rw [if_pos e, e, hy1]
        · rw [if_neg e, kpd_kpg (by omega)])
      clear HOS hgl H
      have HRZ : ∀ wz : World, Hid ((wz.alloc (.cells #[.int .u64 0, .int .u64 0, .int .u64 0, .int .u64 0, .int .u64 0, .int .u64 0, .int .u64 0, .int .u64 0, .int .u64 0, .int .u64 0, .int .u64 0, .int .u64 0, .int .u64 0, .int .u64 0, .int .u64 0, .int .u64 0, .int .u64 0, .int .u64 0, .int .u64 0, .int .u64 0, .int .u64 0, .int .u64 0, .int .u64 0, .int .u64 0, .int .u64 0] 35)).heap[wz.heap.size]? = some (.cells #[.int .u64 0, .int .u64 0, .int .u64 0, .int .u64 0, .int .u64 0, .int .u64 0, .int .u64 0, .int .u64 0, .int .u64 0, .int .u64 0, .int .u64 0, .int .u64 0, .int .u64 0, .int .u64 0, .int .u64 0, .int .u64 0, .int .u64 0, .int .u64 0, .int .u64 0, .int .u64 0, .int .u64 0, .int .u64 0, .int .u64 0, .int .u64 0, .int .u64 0] 35 (0, 0))) := fun wz => Lib.hid (heap_alloc_new _ _)
      have HZV := Lib.hid kz25v
      have hix := ixB8 g c q M hMc
      have hsz2 : (wr.setCell ⟨g, M, none⟩ (.int .u8 (y1 : Nat))).heap.size = wr.heap.size := by simp
      obtain ⟨w4, hw4⟩ : ∃ w4, wr.setCell ⟨g, M, none⟩ (.int .u8 (y1 : Nat)) = w4 := ⟨_, rfl⟩
      rw [hw4] at HG hsz2
      obtain ⟨G, hG⟩ : ∃ G, w4.heap.size = G := ⟨_, rfl⟩
      have HRG := Lib.hid (show (w4.alloc (.cells #[.int .u64 0, .int .u64 0, .int .u64 0, .int .u64 0, .int .u64 0, .int .u64 0, .int .u64 0, .int .u64 0, .int .u64 0, .int .u64 0, .int .u64 0, .int .u64 0, .int .u64 0, .int .u64 0, .int .u64 0, .int .u64 0, .int .u64 0, .int .u64 0, .int .u64 0, .int .u64 0, .int .u64 0, .int .u64 0, .int .u64 0, .int .u64 0, .int .u64 0] 35)).heap[G]? = some (.cells #[.int .u64 0, .int .u64 0, .int .u64 0, .int .u64 0, .int .u64 0, .int .u64 0, .int .u64 0, .int .u64 0, .int .u64 0, .int .u64 0, .int .u64 0, .int .u64 0, .int .u64 0, .int .u64 0, .int .u64 0, .int .u64 0, .int .u64 0, .int .u64 0, .int .u64 0, .int .u64 0, .int .u64 0, .int .u64 0, .int .u64 0, .int .u64 0, .int .u64 0] 35 (0, 0)) by rw [← hG]; exact heap_alloc_new _ _)
      obtain ⟨E, hE⟩ : ∃ E, kpd f n c = E := ⟨_, rfl⟩
      rw [hE] at HG HK
      have HE := Lib.hid (show ∀ j, E j < 256 from by rw [← hE]; exact kpd_lt HF.out)
      have H5 := Lib.hid (show CS w g G c E (ab E 0) ((w4.alloc (.cells #[.int .u64 0, .int .u64 0, .int .u64 0, .int .u64 0, .int .u64 0, .int .u64 0, .int .u64 0, .int .u64 0, .int .u64 0, .int .u64 0, .int .u64 0, .int .u64 0, .int .u64 0, .int .u64 0, .int .u64 0, .int .u64 0, .int .u64 0, .int .u64 0, .int .u64 0, .int .u64 0, .int .u64 0, .int .u64 0, .int .u64 0, .int .u64 0, .int .u64 0] 35)).setRow G (ar .u64 25 fun _ => 0)) from by
        obtain ⟨h1, h2, h3, h4, h5⟩ := HG.out
        have hsz := h4.size
        exact ⟨below_setRow (h4.alloc (by omega) _) (by omega) _, (setRow_other _ _ _ _ (by omega)).trans ((heap_alloc_old _ _ (by omega)).trans h5), fun j hj => (World.cell?_of_block (w := w4) ((setRow_other _ _ _ _ (show g ≠ G by omega)).trans (heap_alloc_old _ _ (by show g < w4.heap.size; omega)))).trans (h3 j hj), setRow_heap _ _ _ _ _ _ HRG.out, h1, by omega⟩)
      clear HG hE hy0 hy1 hsz2
      go_wp2_with (refine wpList_store_row rfl 35 _ _ rfl G (ar .u64 25 fun _ => 0) rfl HZV.out 35 _ HRG.out (HI _).out (by rw [ar_size]; rfl) (ar_one _ _ _) ?_)
      clear HRG HRZ HZV hG hw4 cM fM hix hxx
      go_loopw [5] (fun i wr => ∃ k : Nat, k ≤ c ∧ i = .int .i64 k ∧ Hid (CS w g G c E (ab E k) wr)) (fun i _ => c - (intOf i).toNat)
      case atStart => exact ⟨0, by omega, rfl, H5⟩
      case round =>
        obtain ⟨k, hk, rfl, H⟩ := hrel
        clear H5
        have hk0 : (0 : Int) ≤ k := by omega
        by_cases hlt : k < c
        · have hlt' : (k : Int) < c := by omega
          have hk1 : (k : Int) < 2000000 := by omega
          obtain ⟨p, hp⟩ : ∃ p, k % 136 = p := ⟨_, rfl⟩
          have hp1 : (k : Int) % 136 = (p : Int) := by omega
          have hp136 : p < 136 := by omega
          have hp0 : (0 : Int) ≤ p := by omega
          have hab : ab E (k + 1) = if (k + 1) % 136 = 0 then kpm rcT 24 (xby (ab E k) p (E k)) else xby (ab E k) p (E k) := by
            rw [ab, hp]
          obtain ⟨x, hx⟩ : ∃ x, E k = x := ⟨_, rfl⟩
          have HX := Lib.hid (show x < 256 from by rw [← hx]; exact HE.out k)
          have HVR := Lib.hid (ab_rng E k)
          obtain ⟨v, hv⟩ : ∃ v, ab E k = v := ⟨_, rfl⟩
          rw [hv, hx] at hab
          rw [hv] at H HVR
          have HAB := Lib.hid hab
          have HC := Lib.hid (show ∀ wx, CS w g G c E v wx → wx.cell? ⟨g, k, none⟩ = some (.int .u8 (x : Nat)) from fun wx h => by rw [← hx]; exact h.by8 k hlt)
          obtain ⟨y, hy⟩ : ∃ y, p / 8 = y := ⟨_, rfl⟩
          obtain ⟨r, hr⟩ : ∃ q, p % 8 = q := ⟨_, rfl⟩
          obtain ⟨s, hs⟩ : ∃ q, 8 * r = q := ⟨_, rfl⟩
          obtain ⟨X, hX⟩ : ∃ q, x * 2 ^ s = q := ⟨_, rfl⟩
          have HXB := Lib.hid (show xby v p x = updI v y (bits .xor .u64 (v y) (X : Nat)) from by unfold xby; rw [hy, hr, hs, hX])
          have M1 := Lib.hid (show ∀ w, (binOp BinOp.quo 3 (.int .i64 (p : Nat)) (.int .i64 8)).run Tryd.prog w = .ok (.int .i64 (y : Nat)) w from fun w => by rw [← hy]; exact quo8 p (by omega) w)
          have M2 := Lib.hid (show ∀ w, (binOp BinOp.rem 3 (.int .i64 (p : Nat)) (.int .i64 8)).run Tryd.prog w = .ok (.int .i64 (r : Nat)) w from fun w => by rw [← hr]; exact rem8 p (by omega) w)
          have M3 := Lib.hid (show ∀ w, (binOp BinOp.mul 3 (.int .i64 8) (.int .i64 (r : Nat))).run Tryd.prog w = .ok (.int .i64 (s : Nat)) w from fun w => by rw [← hs]; exact mul8' r (by omega) w)
          have M6 := Lib.hid (cvu s (by omega))
          have M4 := Lib.hid (show ∀ w, (binOp BinOp.shl 34 (.int .u64 (x : Nat)) (.int .u64 (s : Nat))).run Tryd.prog w = .ok (.int .u64 (X : Nat)) w from fun w => by rw [← hX]; exact shl8u x s HX.out (by omega) w)
          have M5 := Lib.hid (cv8 x HX.out)
          have HY := Lib.hid (show y < 25 by omega)
          have HP := Lib.hid hp
          have HKC := Lib.hid hlt
          clear hp hab hx hv hy hr hs hX
          go_wp2_with fail
          rw [hp1]
          refine region_quiet_tail 18 (CS w g G c E v) (by kernel_rfl) (by kernel_rfl) H.out.drew ?_
          simp only [List.take_succ_cons, List.take_zero, List.drop_succ_cons, List.drop_zero]
          with_reducible refine q_val (.int .i64 (p : Nat)) (by kernel_rfl) (fun _ _ => by kernel_rfl) ?_
          with_reducible refine q_v (binOp BinOp.quo 3 (.int .i64 (p : Nat)) (.int .i64 8)) (.int .i64 (y : Nat)) (by kernel_rfl) (by kernel_rfl) (fun wz _ => M1.out wz) ?_
          with_reducible refine q_val (.int .i64 (p : Nat)) (by kernel_rfl) (fun _ _ => by kernel_rfl) ?_
          with_reducible refine q_v (binOp BinOp.quo 3 (.int .i64 (p : Nat)) (.int .i64 8)) (.int .i64 (y : Nat)) (by kernel_rfl) (by kernel_rfl) (fun wz _ => M1.out wz) ?_
          with_reducible refine q_v (Instr.indexAt 35 (.pointer (some ⟨G, 0, none⟩)) (.int .i64 (y : Nat))) (.pointer (some ⟨G, y, none⟩)) (by kernel_rfl) (by kernel_rfl) (fun wz _ => ixA G y HY.out wz) ?_
          with_reducible refine q_load 34 (.tmp 46) (.pointer (some ⟨G, y, none⟩)) (.int .u64 (v y)) rfl (by kernel_rfl) (by kernel_rfl) (fun _ h => h.ldG y HY.out _ rfl) ?_
          with_reducible refine q_val (.slice (some ⟨g, 0, none⟩) c q) (by kernel_rfl) (fun _ _ => by kernel_rfl) ?_
          with_reducible refine q_val (.int .i64 (k : Nat)) (by kernel_rfl) (fun _ _ => by kernel_rfl) ?_
          with_reducible refine q_v (Instr.indexAt 22 (.slice (some ⟨g, 0, none⟩) c q) (.int .i64 (k : Nat))) (.pointer (some ⟨g, k, none⟩)) (by kernel_rfl) (by kernel_rfl) (fun wz _ => ixB8 g c q k HKC.out wz) ?_
          with_reducible refine q_load 5 (.tmp 50) (.pointer (some ⟨g, k, none⟩)) (.int .u8 (x : Nat)) rfl (by kernel_rfl) (by kernel_rfl) (fun _ h => kloadb _ _ _ _ (HC.out _ h)) ?_
          with_reducible refine q_v (convert 5 34 (.int .u8 (x : Nat))) (.int .u64 (x : Nat)) (by kernel_rfl) (by kernel_rfl) (fun wz _ => M5.out wz) ?_
          with_reducible refine q_val (.int .i64 (p : Nat)) (by kernel_rfl) (fun _ _ => by kernel_rfl) ?_
          with_reducible refine q_v (binOp BinOp.rem 3 (.int .i64 (p : Nat)) (.int .i64 8)) (.int .i64 (r : Nat)) (by kernel_rfl) (by kernel_rfl) (fun wz _ => M2.out wz) ?_
          with_reducible refine q_v (binOp BinOp.mul 3 (.int .i64 8) (.int .i64 (r : Nat))) (.int .i64 (s : Nat)) (by kernel_rfl) (by kernel_rfl) (fun wz _ => M3.out wz) ?_
          with_reducible refine q_v (convert 3 43 (.int .i64 (s : Nat))) (.int .u64 (s : Nat)) (by kernel_rfl) (by kernel_rfl) (fun wz _ => M6.out wz) ?_
          with_reducible refine q_v (binOp BinOp.shl 34 (.int .u64 (x : Nat)) (.int .u64 (s : Nat))) (.int .u64 (X : Nat)) (by kernel_rfl) (by kernel_rfl) (fun wz _ => M4.out wz) ?_
          with_reducible refine q_val (.int .u64 (bits .xor .u64 (v y) (X : Nat))) (by kernel_rfl) (fun _ _ => by kernel_rfl) ?_
          with_reducible refine q_v (Instr.indexAt 35 (.pointer (some ⟨G, 0, none⟩)) (.int .i64 (y : Nat))) (.pointer (some ⟨G, y, none⟩)) (by kernel_rfl) (by kernel_rfl) (fun wz _ => ixA G y HY.out wz) ?_
          with_reducible refine wpQuiet_nil ?_
          intro w1 hCx
          simp only [Act.put, List.setIfInBounds_toArray, List.set_cons_succ, List.set_cons_zero]
          have co := (cell_of_row w1 _ y _ _ _ hCx.rG).trans (ar_at _ _ _ _ HY.out)
          have fo := frozen_of_row w1 _ y _ _ hCx.rG
          have hst := hCx.set y HY.out (bits .xor .u64 (v y) (X : Nat))
          rw [← HXB.out] at hst
          have H2 := Lib.hid hst
          clear hCx hst H
          obtain ⟨w2, hw2⟩ : ∃ z, w1.setCell ⟨G, y, none⟩ (.int .u64 (bits .xor .u64 (v y) (X : Nat))) = z := ⟨_, rfl⟩
          rw [hw2] at H2
          by_cases h135 : p = 135
          · have ht2 : ((p : Int) == 135) = true := by simp; omega
            have HRP := Lib.hid (krp (xby v p x) (xby_rng HVR.out p x) w2)
            have HN := Lib.hid (show kpm rcT 24 (xby v p x) = ab E (k + 1) from by rw [HAB.out, if_pos (by have := HP.out; omega)])
            obtain ⟨u, hu⟩ : ∃ u, xby v p x = u := ⟨_, rfl⟩
            rw [hu] at HRP HN H2
            have H3 := Lib.hid H2.out.rG
            clear hu
            go_wp2_with (refine wpList_load_row rfl 35 _ rfl G rfl 35 (ar .u64 25 u) (0, 0) _ H3.out Tryd.underlying35 rfl (HI u).out ?_)
            refine HRP.out.mono ?_
            rintro e w5 ⟨rfl, hb⟩
            have H6 := Lib.hid (H2.out.below hb)
            rw [HN.out]
            have H7 := Lib.hid (H6.out.row (ab E (k + 1)))
            have H8 := Lib.hid H6.out.rG
            obtain ⟨z, hz⟩ : ∃ z, ab E (k + 1) = z := ⟨_, rfl⟩
            rw [hz] at H7 ⊢
            have HZ := Lib.hid hz
            clear hb H2 H3 HRP H6 hz hw2 co fo
            go_wp2_with (refine wpList_store_row rfl 35 _ _ rfl G (ar .u64 25 z) rfl rfl 35 _ H8.out (HI z).out (by rw [ar_size, ar_size]) (ar_one _ _ _) ?_)
            go_roundw
            case rel => exact ⟨k + 1, by omega, by go_num, by rw [HZ.out]; exact H7⟩
            case measure => simp [intOf]; omega
          · have ht2 : ((p : Int) == 135) = false := by simp; omega
            have HN := Lib.hid (show xby v p x = ab E (k + 1) from by rw [HAB.out, if_neg (by have := HP.out; omega)])
            go_wp2_with fail
            go_roundw
            case rel => exact ⟨k + 1, by omega, by go_num, by rw [← HN.out]; exact H2⟩
            case measure => simp [intOf]; omega
        · obtain rfl : k = c := by omega
          have hlt' : ¬ (k : Int) < k := by omega
          obtain ⟨v, hv⟩ : ∃ v, ab E k = v := ⟨_, rfl⟩
          rw [hv] at H HK
          have HZV := Lib.hid kz32v
          obtain ⟨O, hO⟩ : ∃ O, wr.heap.size = O := ⟨_, rfl⟩
          have HRO := Lib.hid (show (wr.alloc (.cells #[.int .u8 0, .int .u8 0, .int .u8 0, .int .u8 0, .int .u8 0, .int .u8 0, .int .u8 0, .int .u8 0, .int .u8 0, .int .u8 0, .int .u8 0, .int .u8 0, .int .u8 0, .int .u8 0, .int .u8 0, .int .u8 0, .int .u8 0, .int .u8 0, .int .u8 0, .int .u8 0, .int .u8 0, .int .u8 0, .int .u8 0, .int .u8 0, .int .u8 0, .int .u8 0, .int .u8 0, .int .u8 0, .int .u8 0, .int .u8 0, .int .u8 0, .int .u8 0] 25)).heap[O]? = some (.cells #[.int .u8 0, .int .u8 0, .int .u8 0, .int .u8 0, .int .u8 0, .int .u8 0, .int .u8 0, .int .u8 0, .int .u8 0, .int .u8 0, .int .u8 0, .int .u8 0, .int .u8 0, .int .u8 0, .int .u8 0, .int .u8 0, .int .u8 0, .int .u8 0, .int .u8 0, .int .u8 0, .int .u8 0, .int .u8 0, .int .u8 0, .int .u8 0, .int .u8 0, .int .u8 0, .int .u8 0, .int .u8 0, .int .u8 0, .int .u8 0, .int .u8 0, .int .u8 0] 25 (0, 0)) by rw [← hO]; exact heap_alloc_new _ _)
          have H6 := Lib.hid (show CO w G O v (bD (byt v) 0) ((wr.alloc (.cells #[.int .u8 0, .int .u8 0, .int .u8 0, .int .u8 0, .int .u8 0, .int .u8 0, .int .u8 0, .int .u8 0, .int .u8 0, .int .u8 0, .int .u8 0, .int .u8 0, .int .u8 0, .int .u8 0, .int .u8 0, .int .u8 0, .int .u8 0, .int .u8 0, .int .u8 0, .int .u8 0, .int .u8 0, .int .u8 0, .int .u8 0, .int .u8 0, .int .u8 0, .int .u8 0, .int .u8 0, .int .u8 0, .int .u8 0, .int .u8 0, .int .u8 0, .int .u8 0] 25)).setRow O (ar .u8 32 fun _ => 0)) from by
            have l := (Array.getElem?_eq_some_iff.1 H.out.rG).1
            have l2 := H.out.hG
            have l3 := H.out.hg
            refine ⟨below_setRow (H.out.old.alloc (by omega) _) (by omega) _, (setRow_other _ _ _ _ (by omega)).trans ((heap_alloc_old _ _ (by omega)).trans H.out.r0), (setRow_other _ _ _ _ (by omega)).trans ((heap_alloc_old _ _ (by omega)).trans H.out.rG), ?_, by omega, by omega⟩
            rw [bD_0, ← kz32]
            exact setRow_heap _ _ _ _ _ _ HRO.out)
          clear hv H
          go_wp2_with (refine wpList_store_row rfl 25 _ _ rfl O (ar .u8 32 fun _ => 0) rfl HZV.out 25 _ HRO.out (HJ _).out (by rw [ar_size]; rfl) (ar_one _ _ _) ?_)
          clear HRO HZV hO
          go_loopw [8] (fun i wr => ∃ k : Nat, k ≤ 32 ∧ i = .int .i64 k ∧ Hid (CO w G O v (bD (byt v) k) wr)) (fun i _ => 32 - (intOf i).toNat)
          case atStart => exact ⟨0, by omega, rfl, H6⟩
          case round =>
            obtain ⟨i, hi, rfl, H⟩ := hrel
            clear H6
            have hi0 : (0 : Int) ≤ i := by omega
            by_cases hlt : i < 32
            · have hlt2 : (i : Int) < 32 := by omega
              have hby := bD_next (byt v) i
              unfold byt at hby
              obtain ⟨y, hy⟩ : ∃ y, i / 8 = y := ⟨_, rfl⟩
              obtain ⟨r, hr⟩ : ∃ q, i % 8 = q := ⟨_, rfl⟩
              obtain ⟨s, hs⟩ : ∃ q, 8 * r = q := ⟨_, rfl⟩
              rw [hy, hr, hs] at hby
              have d1 : (i : Int) / 8 = (y : Int) := by omega
              have d2 : (i : Int) % 8 = (r : Int) := by omega
              have d3 : 8 * (r : Int) = (s : Int) := by omega
              have hs0 : (0 : Int) ≤ s := by omega
              have hs1 : (s : Int) < 64 := by omega
              have hws : IntKind.u64.wrap (s : Int) = (s : Int) := by rw [IntKind.wrap_u64]; omega
              have hi1 := ixA G y (by omega)
              have hr0 : (0 : Int) ≤ r := by omega
              have hr8 : (r : Int) < 8 := by omega
              have cG := (cell_of_row wr _ y _ _ _ H.out.rG).trans (ar_at _ _ _ _ (show y < 25 by omega))
              obtain ⟨z, hz⟩ : ∃ z, v y = z := ⟨_, rfl⟩
              rw [hz] at cG hby
              have hwz : IntKind.u8.wrap (z / 2 ^ s) = z / 2 ^ s % 256 := by rw [IntKind.wrap_u8]
              obtain ⟨b, hb⟩ : ∃ b, z / 2 ^ s % 256 = b := ⟨_, rfl⟩
              rw [hb] at hwz hby
              have co := (cell_of_row wr _ i _ _ _ H.out.rO).trans (ar_at _ _ _ _ hlt)
              have fo := frozen_of_row wr _ i _ _ H.out.rO
              have hst := H.out.set i hlt b
              have hby2 : updI (bD (byt v) i) i b = bD (byt v) (i + 1) := hby
              rw [hby2] at hst
              have H2 := Lib.hid hst
              clear hy hr hs hz hb hst hby hby2
              go_wp2_with fail
              go_roundw
              case rel => exact ⟨i + 1, by omega, by go_num, H2⟩
              case measure => simp [intOf]; omega
            · obtain rfl : i = 32 := by omega
              have hr := H.out.rO
              rw [bD_32] at hr
              have HB := Lib.hid (And.intro H.out.old (And.intro hr H.out.r0))
              clear hr H
              obtain ⟨y, hy⟩ : ∃ y, byt v = y := ⟨_, rfl⟩
              rw [hy] at HB HK
              clear hy
              go_wp2_with (first | (refine wpList_load_row rfl 25 _ rfl O rfl 25 _ (0, 0) _ HB.out.2.1 Tryd.underlying25 rfl (HJ y).out ?_) | (refine wpList_store_row rfl 25 _ _ rfl w.heap.size (ar .u8 32 y) rfl rfl 25 _ HB.out.2.2 (HJ y).out (by rw [ar_size]; rfl) (ar_one _ _ _) ?_))
              refine bodyPost_ret (v := .agg (ar .u8 32 y)) (results_cell_row (p := 2) rfl _ _ w.heap.size 25 _ (0, 0) _ rfl (setRow_heap _ _ _ _ _ _ HB.out.2.2) Tryd.underlying25 rfl (HJ y).out) rfl ⟨by rw [HK.out], below_setRow HB.out.1 (by omega) _⟩
    · have ht : ((c : Int) % 136 != 0) = true := by simp; omega
      go_wp2_with (at_builtin; refine wpList_append_lies _ rfl _ _ 22 rfl w0.heap.size 5 i0 (.int .u8 0) 1 1 Tryd.underlying22 hi hz0 hz1 hz2 rfl (by decide) _ (c) (p8 (kpg f n) c) rfl (World.ownsRow.alloc H.out.1 _) ⟨wr.heap.size, 0, none⟩ 1 1 [.int .u8 0] rfl rfl (cell_one_new _ _ _) (by intro u hu; simp at hu; subst hu; rfl) (by omega) (by unfold maxLen; omega) (by omega) (by simp; omega) (wr.heap.size + 1) (by simp) ?_; intro g2 c2 w3 hown3 hgrow hat hlt3; (have hb3 := own_below8 H.out.1 H.out.2 H.out.2.size hgrow); (rw [p8_snoc (kpg f n) (kpg f n) c 0 (fun j hj => rfl) (by rw [kpg_0 (by omega)]; rfl)] at hown3); (have HQ := Lib.hid (And.intro hown3 hb3)); clear hgrow hat hlt3 hown3 hb3 H)
      go_roundw
      case rel => exact ⟨c + 1, by omega, by omega, ⟨_, _, rfl⟩, HQ⟩
      case measure => simp; omega
end Go.Proofs.YtcmpnnfnkcmpcaaDoor
namespace Go.Proofs.YtcmpnnfnkcmpcaaDoor
end Go.Proofs.YtcmpnnfnkcmpcaaDoor

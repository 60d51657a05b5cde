/- Regions that draw their order, by an invariant over the frame's slots and the world, which each operation keeps: as XTie0, where two blocks of one type are made and must be told apart. No program is named here. -/
import Derived.Test.YtaopmcpihdcaiaaTie0
namespace Go.Proofs.Ytaopmcpihdcaiaa
open Go.RowKit

section
variable {P : Program} {ops : Array Oper} {Q : Exit → Act → World → Prop} {C : (Nat → Value) → World → Prop} {φ : Nat → (Nat → Value) → World → Prop} {R : (Nat → Value) → World → World → Prop} {a0 : Act}

def StepU (P : Program) (ops : Array Oper) (Q : Exit → Act → World → Prop) (C : (Nat → Value) → World → Prop) (φ : Nat → (Nat → Value) → World → Prop) (R : (Nat → Value) → World → World → Prop) (k : Nat) (o : Oper) (a : Act) (w : World) : Prop :=
  if Region.wanted o (yielded ops a.tmps) then o.wp P a w (fun a' w' => ∃ v, a' = a.put o.dst v ∧ C (slots (a.put o.dst v)) w' ∧ φ k (slots (a.put o.dst v)) w' ∧ R (slots a) w w') Q else (C (slots (a.put o.dst undef)) w ∧ φ k (slots (a.put o.dst undef)) w)
def StepsU (P : Program) (ops : Array Oper) (Q : Exit → Act → World → Prop) (C : (Nat → Value) → World → Prop) (φ : Nat → (Nat → Value) → World → Prop) (R : (Nat → Value) → World → World → Prop) (a0 : Act) : Nat → List Oper → Prop
  | _, [] => True
  | k, o :: l => (∀ a w, C (slots a) w → a.tmps.size = a0.tmps.size → KnownT ops φ a0 o a w → StepU P ops Q C φ R k o a w) ∧ StepsU P ops Q C φ R a0 (k + 1) l
theorem StepsU.at_ : ∀ {l : List Oper} {k : Nat}, StepsU P ops Q C φ R a0 k l → ∀ (i : Nat) (o : Oper), l[i]? = some o → ∀ a w, C (slots a) w → a.tmps.size = a0.tmps.size → KnownT ops φ a0 o a w → StepU P ops Q C φ R (k + i) o a w
  | [], _, _, i, o, hi => by simp at hi
  | o :: l, k, h, 0, o', hi => by simp at hi; subst hi; exact h.1
  | o :: l, k, h, i + 1, o', hi => by
    have := StepsU.at_ h.2 i o' (by simpa using hi)
    rwa [show k + 1 + i = k + (i + 1) by omega] at this

theorem wpAny_tie2 (rd : Nat → List Nat) (rk : Nat → Nat) (hdist : distinctB ops.toList = true) (hlex : rankB ops rk = true) (hon : ∀ (i : Nat) (o : Oper), ops[i]? = some o → ∀ e ∈ o.after, e.on < ops.size) (hown : ownB ops rd = true)
    (hrd : ∀ i s s' w, (∀ t ∈ rd i, s t = s' t) → φ i s w → φ i s' w)
    (hφ : ∀ i s w w', C s w → R s w w' → φ i s w → φ i s w') (hst : StepsU P ops Q C φ R a0 0 ops.toList)
    (hQ : ∀ (f : Oper → Value) w, C (slots (putAll f ops.toList a0)) w → (∀ i o, ops[i]? = some o → φ i (slots (putAll f ops.toList a0)) w) → Q .normal (putAll f ops.toList a0) w) :
    ∀ (fuel : Nat) (listed : Array Bool) (a : Act) (w : World), listed.size = ops.size → listed.toList.count false ≤ fuel → C (slots a) w → a.tmps.size = a0.tmps.size → a.defers = a0.defers →
      (∀ t, isDst ops.toList t = false → a.tmps.getD t undef = a0.tmps.getD t undef) → (∀ i o, listed.getD i false = true → ops[i]? = some o → φ i (slots a) w ∧ ∀ e ∈ o.after, Region.binds .any e = true → listed.getD e.on false = true) → wpAny P .any ops Q fuel listed a w := by
  have done : ∀ (listed : Array Bool) (a : Act) (w : World), (∀ i, i < ops.size → listed.getD i false = true) → C (slots a) w → a.tmps.size = a0.tmps.size → a.defers = a0.defers →
      (∀ t, isDst ops.toList t = false → a.tmps.getD t undef = a0.tmps.getD t undef) → (∀ i o, listed.getD i false = true → ops[i]? = some o → φ i (slots a) w ∧ ∀ e ∈ o.after, Region.binds .any e = true → listed.getD e.on false = true) → Q .normal a w := by
    intro listed a w hall hC hs hd hk hp
    have hb := put_back hs hd hk
    rw [hb]
    exact hQ _ w (by rw [← hb]; exact hC) (fun i o ho => by rw [← hb]; exact (hp i o (hall i (Array.getElem?_eq_some_iff.1 ho).1) ho).1)
  intro fuel
  induction fuel with
  | zero =>
    intro listed a w hsz hc hC hs hd hk hp
    have hno : false ∉ listed.toList := List.count_eq_zero.1 (by omega)
    have hall : ∀ i, i < ops.size → listed.getD i false = true := fun i hi => by
      have hlt : i < listed.size := by omega
      have hm : listed[i] ∈ listed.toList := by simp
      simp only [Array.getD_eq_getD_getElem?, hlt, Array.getElem?_eq_getElem, Option.getD_some]
      cases h : listed[i] with
      | true => rfl
      | false => rw [h] at hm; exact absurd hm hno
    refine ⟨?_, done listed a w hall hC hs hd hk hp⟩
    rw [List.eq_nil_iff_forall_not_mem]
    intro j hj
    obtain ⟨h0, o, ho, -⟩ := mem_ready.1 hj
    have hlt := (Array.getElem?_eq_some_iff.1 ho).1
    have h1 := hall j hlt
    simp [show j < listed.size by omega] at h0 h1
    rw [h0] at h1
    cases h1
  | succ fuel ih =>
    intro listed a w hsz hc hC hs hd hk hp
    refine ⟨fun hr => ?_, fun i hi => ?_⟩
    · refine done listed a w ?_ hC hs hd hk hp
      -- the least that isn't listed would be ready
      have key : ∀ r i, rk i < r → i < ops.size → listed.getD i false = true := by
        intro r
        induction r with
        | zero => intro i h; omega
        | succ r ihr =>
          intro i hri hi
          cases h : listed.getD i false with
          | true => rfl
          | false =>
            have ho : ops[i]? = some ops[i] := Array.getElem?_eq_getElem hi
            have : i ∈ Region.ready .any ops listed := mem_ready.2 ⟨by simpa [show i < listed.size by omega] using h, ops[i], ho, fun e he hb => by
              have hl := hlex
              unfold rankB at hl
              rw [List.all_eq_true] at hl
              have := hl i (by simpa using hi)
              rw [ho] at this
              simp only [Array.all_eq_true_iff_forall_mem] at this
              have hlt := this e he
              rw [hb] at hlt
              simp at hlt
              exact ihr e.on (by omega) (hon i _ ho e he)⟩
            rw [hr] at this
            cases this
      exact fun i hi => key (rk i + 1) i (by omega) hi
    · obtain ⟨h0, o, ho, hall⟩ := mem_ready.1 hi
      have hlt : i < ops.size := (Array.getElem?_eq_some_iff.1 ho).1
      have hl' : ops.toList[i]? = some o := by simpa using ho
      have hstep := hst.at_ i o hl' a w hC hs ⟨hk, fun e he hb oj hj => (hp e.on oj (by have := hall e he hb; simpa using this) hj).1⟩
      rw [Nat.zero_add] at hstep
      have go : ∀ (v : Value) (w' : World), C (slots (a.put o.dst v)) w' → φ i (slots (a.put o.dst v)) w' → (∀ j, φ j (slots a) w → φ j (slots a) w') → wpAny P .any ops Q fuel (listed.setIfInBounds i true) (a.put o.dst v) w' := by
        intro v w' hC' hv hm
        refine ih _ _ _ (by simpa using hsz) ?_ hC' (by rw [put_size]; exact hs) (by rw [put_defers]; exact hd) ?_ ?_
        · have hil : i < listed.size := by omega
          have e0 : listed[i] = false := by simpa [hil] using h0
          rw [Array.toList_setIfInBounds, List.count_set (by simpa using hil)]
          have : listed.toList[i]'(by simpa using hil) = false := by simpa using e0
          simp only [this]
          simp
          have hpos : 0 < listed.toList.count false := List.count_pos_iff.2 (by rw [← e0]; simp)
          simp at hpos
          simp at hc
          omega
        · intro t ht
          have hne : o.dst ≠ some t := fun e => by
            simp only [isDst, List.any_eq_false] at ht
            exact ht o (List.mem_of_getElem? hl') (by simp [e])
          rw [put_other _ _ _ _ hne]
          exact hk t ht
        · intro j oj hj hoj
          by_cases e : i = j
          · subst e
            have : oj = o := Option.some.inj (hoj.symm.trans ho)
            subst this
            refine ⟨hv, fun e he hb => ?_⟩
            have h1 := hall e he hb
            by_cases q : i = e.on
            · rw [← q]; exact getD_set_same (by omega)
            · rw [getD_set_ne false q]; simpa using h1
          · rw [getD_set_ne false e] at hj
            obtain ⟨h1, h2⟩ := hp j oj hj hoj
            refine ⟨hrd j _ _ w' (fun t ht => ?_) (hm _ h1), fun e' he hb => ?_⟩
            · have hne : o.dst ≠ some t := fun hd' => by
                rcases own_spec hown hoj ht with h3 | h3 | ⟨e', he, hb, ok, hok, hkd⟩
                · exact distinct_spec hdist i j o oj t hl' (by simpa using hoj) e hd' h3
                · simp only [isDst, List.any_eq_false] at h3
                  exact h3 o (List.mem_of_getElem? hl') (by simp [hd'])
                · have h4 := h2 e' he hb
                  have h5 : i ≠ e'.on := fun q => by rw [← q, getD_both h0] at h4; cases h4
                  exact distinct_spec hdist i e'.on o ok t hl' (by simpa using hok) h5 hd' hkd
              exact (put_other _ _ _ _ hne).symm
            · by_cases q : i = e'.on
              · rw [← q]; exact getD_set_same (by omega)
              · rw [getD_set_ne false q]; exact h2 e' he hb
      unfold wpOp
      rw [ho]
      simp only
      unfold StepU at hstep
      split
      · rename_i hw
        rw [if_pos hw] at hstep
        refine .inl (Oper.wp_mono ?_ hstep)
        rintro a' w' ⟨v, rfl, hC', hv, hR⟩
        exact go v w' hC' hv (fun j h => hφ j _ w w' hC hR h)
      · rename_i hw
        rw [if_neg hw] at hstep
        exact go undef w hstep.1 hstep.2 (fun j h => h)

/-- THE LAW. -/
theorem region_tie2 {id : Nat} {l : List Oper} {w : World} (C : (Nat → Value) → World → Prop) (φ : Nat → (Nat → Value) → World → Prop) (R : (Nat → Value) → World → World → Prop) (rd : Nat → List Nat) (rk : Nat → Nat) (hm : P.follows .mixedOrders = true)
    (hB : (distinctB l && rankB l.toArray rk && ownB l.toArray rd && insideB l.toArray) = true) (hC : C (slots a0) w.drew)
    (hrd : ∀ i s s' w, (∀ t ∈ rd i, s t = s' t) → φ i s w → φ i s' w) (hφ : ∀ i s w w', C s w → R s w w' → φ i s w → φ i s w') (hst : StepsU P l.toArray Q C φ R a0 0 l)
    (hQ : ∀ (f : Oper → Value) w, C (slots (putAll f l a0)) w → (∀ i o, l[i]? = some o → φ i (slots (putAll f l a0)) w) → Q .normal (putAll f l a0) w) : (Code.region id l.toArray true).wp P Q a0 w := by
  simp only [Bool.and_eq_true] at hB
  refine wp_region_any hm (wpAny_tie2 (C := C) (φ := φ) (R := R) (a0 := a0) rd rk hB.1.1.1 hB.1.1.2 (inside_spec hB.2) hB.1.2 hrd hφ hst (fun f w hC h => hQ f w hC (fun i o ho => h i o (by simpa using ho))) _ _ _ w.drew (by simp) (by simp) hC rfl rfl (fun _ _ => rfl) ?_)
  intro i o hi
  simp at hi
  rcases Nat.lt_or_ge i l.length with h | h
  · simp [h] at hi
  · simp [Nat.not_lt.2 h] at hi

/-! What each kind of operation must do. -/
theorem uu_val {k : Nat} {o : Oper} {a : Act} {w : World} (v : Value) (hw : Region.wanted o (yielded ops a.tmps) = true) (hr : (execOp a.eval o).run P w = .ok (.value v) w) (hC : C (slots (a.put o.dst v)) w) (hv : φ k (slots (a.put o.dst v)) w) (hR : R (slots a) w w) : StepU P ops Q C φ R k o a w := by
  unfold StepU
  rw [if_pos hw]
  unfold Oper.wp
  rw [hr]
  exact ⟨v, rfl, hC, hv, hR⟩
theorem uu_skip {k : Nat} {o : Oper} {a : Act} {w : World} (hw : Region.wanted o (yielded ops a.tmps) = false) (hC : C (slots (a.put o.dst undef)) w) (hv : φ k (slots (a.put o.dst undef)) w) : StepU P ops Q C φ R k o a w := by
  unfold StepU
  rw [if_neg (by rw [hw]; exact Bool.false_ne_true)]
  exact ⟨hC, hv⟩
theorem uu_new {k : Nat} {o : Oper} {a : Act} {w w' : World} (v : Value) (hw : Region.wanted o (yielded ops a.tmps) = true) (hr : (execOp a.eval o).run P w = .ok (.value v) w') (hC : C (slots (a.put o.dst v)) w') (hv : φ k (slots (a.put o.dst v)) w') (hR : R (slots a) w w') : StepU P ops Q C φ R k o a w := by
  unfold StepU
  rw [if_pos hw]
  unfold Oper.wp
  rw [hr]
  exact ⟨v, rfl, hC, hv, hR⟩
theorem uu_v {k : Nat} {o : Oper} {a : Act} {w w' : World} (s : Sem Value) (v : Value) (hw : Region.wanted o (yielded ops a.tmps) = true) (ho : execOp a.eval o = (do let x ← s; pure (.value x))) (hr : s.run P w = .ok v w') (hC : C (slots (a.put o.dst v)) w') (hv : φ k (slots (a.put o.dst v)) w') (hR : R (slots a) w w') : StepU P ops Q C φ R k o a w :=
  uu_new v hw (by rw [ho]; simp only [Sem.run_bind, hr, Result.andThen_ok, Sem.run_pure]) hC hv hR
theorem uu_load {k : Nat} {o : Oper} {a : Act} {w : World} (T : TypeId) (x : Operand) (p v : Value) (ho : o.op = .load T x) (hw : Region.wanted o (yielded ops a.tmps) = true) (hp : a.eval x = p)
    (hr : (Instr.loadAt T p).run P w = .ok v w) (hC : C (slots (a.put o.dst v)) w) (hv : φ k (slots (a.put o.dst v)) w) (hR : R (slots a) w w) : StepU P ops Q C φ R k o a w :=
  uu_val v hw (by
    unfold execOp
    rw [ho]
    simp only [hp, Sem.run_bind, hr, Result.andThen_ok, Sem.run_pure]) hC hv hR
theorem uu_call {k : Nat} {o : Oper} {a : Act} {w : World} (f : FuncId) (args : Array Value) (hw : Region.wanted o (yielded ops a.tmps) = true) (he : (execOp a.eval o).run P w = .ok (.enter f args) w)
    (hc : Calls P f args w fun e w' => ∃ v, e = .returned v ∧ C (slots (a.put o.dst v)) w' ∧ φ k (slots (a.put o.dst v)) w' ∧ R (slots a) w w') : StepU P ops Q C φ R k o a w := by
  unfold StepU
  rw [if_pos hw]
  unfold Oper.wp
  rw [he]
  refine Calls.mono hc ?_
  rintro e w' ⟨v, rfl, h1, h2, h3⟩
  exact ⟨v, rfl, h1, h2, h3⟩
theorem uu_store {k : Nat} {o : Oper} {a : Act} {w w' : World} (hw : Region.wanted o (yielded ops a.tmps) = true) (hd : o.dst = none) (hr : (execOp a.eval o).run P w = .ok .skip w') (hC : C (slots a) w') (hv : φ k (slots a) w') (hR : R (slots a) w w') : StepU P ops Q C φ R k o a w := by
  unfold StepU
  rw [if_pos hw]
  unfold Oper.wp
  rw [hr]
  refine ⟨undef, by rw [hd], ?_, ?_, hR⟩
  · rw [hd]; exact hC
  · rw [hd]; exact hv
end
end Go.Proofs.Ytaopmcpihdcaiaa

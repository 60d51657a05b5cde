/- A region that draws its order, by an invariant, whose last operation (a store) ends the class: till it is done all is as it was. -/
import Derived.Test.YtoeomlmnejhgpaaDoorTie0
namespace Go.Proofs.YtoeomlmnejhgpaaDoor
open Go.RowKit

section
variable {P : Program} {ops : Array Oper} {Q : Exit → Act → World → Prop} {C : World → Prop} {φ : Nat → (Nat → Value) → World → Prop} {R : World → World → Prop} {a0 : Act}
/-- The class behind an operation. -/
def pst (C D : World → Prop) (last k : Nat) (w : World) : Prop := match Nat.beq k last with
  | true => D w
  | false => C w
/-- Each operation but the last is waited for by a later one. -/
def coverB (ops : Array Oper) (up : Nat → Nat) (last : Nat) : Bool := (List.range last).all fun i => decide (i < up i) && decide (up i ≤ last) && (match ops[up i]? with
  | some o => o.after.any fun e => Region.binds .any e && e.on == i
  | none => false)
theorem cover_spec {up : Nat → Nat} {last i : Nat} (h : coverB ops up last = true) (hi : i < last) : i < up i ∧ up i ≤ last ∧ ∃ o, ops[up i]? = some o ∧ ∃ e ∈ o.after, Region.binds .any e = true ∧ e.on = i := by
  unfold coverB at h
  rw [List.all_eq_true] at h
  have h1 := h i (by simpa using hi)
  rw [Bool.and_eq_true, Bool.and_eq_true] at h1
  refine ⟨by simpa using h1.1.1, by simpa using h1.1.2, ?_⟩
  have h2 := h1.2
  cases ho : ops[up i]? with
  | none => rw [ho] at h2; cases h2
  | some o =>
    rw [ho] at h2
    simp only [Array.any_eq_true] at h2
    obtain ⟨k, hk, h3⟩ := h2
    refine ⟨o, rfl, o.after[k], Array.getElem_mem hk, ?_⟩
    simpa using h3
def StepsTL (P : Program) (ops : Array Oper) (Q : Exit → Act → World → Prop) (C D : World → Prop) (last : Nat) (φ : Nat → (Nat → Value) → World → Prop) (R : World → World → Prop) (a0 : Act) : Nat → List Oper → Prop
  | _, [] => True
  | k, o :: l => (∀ a w, C w → a.tmps.size = a0.tmps.size → KnownT ops φ a0 o a w → Region.wanted o (yielded ops a.tmps) = true ∧ StepT P ops Q (pst C D last k) φ R k o a w) ∧ StepsTL P ops Q C D last φ R a0 (k + 1) l
theorem StepsTL.at_ {D : World → Prop} {last : Nat} : ∀ {l : List Oper} {k : Nat}, StepsTL P ops Q C D last φ R a0 k l → ∀ (i : Nat) (o : Oper), l[i]? = some o → ∀ a w, C w → a.tmps.size = a0.tmps.size → KnownT ops φ a0 o a w → Region.wanted o (yielded ops a.tmps) = true ∧ StepT P ops Q (pst C D last (k + i)) φ R (k + i) o a w
  | [], _, _, i, o, hi => by simp at hi
  | o :: l, k, h, 0, o', hi => by simp at hi; subst hi; exact h.1
  | o :: l, k, h, i + 1, o', hi => by
    have := StepsTL.at_ h.2 i o' (by simpa using hi)
    rwa [show k + 1 + i = k + (i + 1) by omega] at this

theorem wpAny_tieL {D : World → Prop} (last : Nat) (up : Nat → Nat) (hlast : ops.size = last + 1) (hup : coverB ops up last = true) (rd : Nat → List Nat) (rk : Nat → Nat) (hdist : distinctB ops.toList = true) (hlex : rankB ops rk = true) (hon : ∀ (i : Nat) (o : Oper), ops[i]? = some o → ∀ e ∈ o.after, e.on < ops.size) (hown : ownB ops rd = true)
    (hrd : ∀ i s s' w, (∀ t ∈ rd i, s t = s' t) → φ i s w → φ i s' w)
    (hφ : ∀ i v w w', R w w' → φ i v w → φ i v w') (hst : StepsTL P ops Q C D last φ R a0 0 ops.toList)
    (hQ : ∀ (f : Oper → Value) w, D w → (∀ i o, ops[i]? = some o → φ i (slots (putAll f ops.toList a0)) w) → Q .normal (putAll f ops.toList a0) w) :
    ∀ (fuel : Nat) (listed : Array Bool) (a : Act) (w : World), listed.size = ops.size → listed.toList.count false ≤ fuel → ((listed.getD last false = false → C w) ∧ (listed.getD last false = true → D w)) → a.tmps.size = a0.tmps.size → a.defers = a0.defers →
      (∀ t, isDst ops.toList t = false → a.tmps.getD t undef = a0.tmps.getD t undef) → (∀ i o, listed.getD i false = true → ops[i]? = some o → φ i (slots a) w ∧ ∀ e ∈ o.after, Region.binds .any e = true → listed.getD e.on false = true) → wpAny P .any ops Q fuel listed a w := by
  have done : ∀ (listed : Array Bool) (a : Act) (w : World), (∀ i, i < ops.size → listed.getD i false = true) → ((listed.getD last false = false → C w) ∧ (listed.getD last false = true → D w)) → a.tmps.size = a0.tmps.size → a.defers = a0.defers →
      (∀ t, isDst ops.toList t = false → a.tmps.getD t undef = a0.tmps.getD t undef) → (∀ i o, listed.getD i false = true → ops[i]? = some o → φ i (slots a) w ∧ ∀ e ∈ o.after, Region.binds .any e = true → listed.getD e.on false = true) → Q .normal a w := by
    intro listed a w hall hC hs hd hk hp
    have hb := put_back hs hd hk
    rw [hb]
    exact hQ _ w (hC.2 (hall last (by omega))) (fun i o ho => by rw [← hb]; exact (hp i o (hall i (Array.getElem?_eq_some_iff.1 ho).1) ho).1)
  intro fuel
  induction fuel with
  | zero =>
    intro listed a w hsz hc hC hs hd hk hp
    have hno : false ∉ listed.toList := List.count_eq_zero.1 (by omega)
    have hall : ∀ i, i < ops.size → listed.getD i false = true := fun i hi => by
      have hlt : i < listed.size := by omega
      have hm : listed[i] ∈ listed.toList := by simp
      simp only [Array.getD_eq_getD_getElem?, hlt, Array.getElem?_eq_getElem, Option.getD_some]
      cases h : listed[i] with
      | true => rfl
      | false => rw [h] at hm; exact absurd hm hno
    refine ⟨?_, done listed a w hall hC hs hd hk hp⟩
    rw [List.eq_nil_iff_forall_not_mem]
    intro j hj
    obtain ⟨h0, o, ho, -⟩ := mem_ready.1 hj
    have hlt := (Array.getElem?_eq_some_iff.1 ho).1
    have h1 := hall j hlt
    simp [show j < listed.size by omega] at h0 h1
    rw [h0] at h1
    cases h1
  | succ fuel ih =>
    intro listed a w hsz hc hC hs hd hk hp
    refine ⟨fun hr => ?_, fun i hi => ?_⟩
    · refine done listed a w ?_ hC hs hd hk hp
      -- the least that isn't listed would be ready
      have key : ∀ r i, rk i < r → i < ops.size → listed.getD i false = true := by
        intro r
        induction r with
        | zero => intro i h; omega
        | succ r ihr =>
          intro i hri hi
          cases h : listed.getD i false with
          | true => rfl
          | false =>
            have ho : ops[i]? = some ops[i] := Array.getElem?_eq_getElem hi
            have : i ∈ Region.ready .any ops listed := mem_ready.2 ⟨by simpa [show i < listed.size by omega] using h, ops[i], ho, fun e he hb => by
              have hl := hlex
              unfold rankB at hl
              rw [List.all_eq_true] at hl
              have := hl i (by simpa using hi)
              rw [ho] at this
              simp only [Array.all_eq_true_iff_forall_mem] at this
              have hlt := this e he
              rw [hb] at hlt
              simp at hlt
              exact ihr e.on (by omega) (hon i _ ho e he)⟩
            rw [hr] at this
            cases this
      exact fun i hi => key (rk i + 1) i (by omega) hi
    · obtain ⟨h0, o, ho, hall⟩ := mem_ready.1 hi
      have hlt : i < ops.size := (Array.getElem?_eq_some_iff.1 ho).1
      have hl' : ops.toList[i]? = some o := by simpa using ho
      have hl0 : listed.getD last false = false := by
        cases hll : listed.getD last false with
        | false => rfl
        | true =>
          exfalso
          have key : ∀ r j, last - j ≤ r → j ≤ last → listed.getD j false = true := by
            intro r
            induction r with
            | zero => intro j h1 h2; obtain rfl : j = last := by omega
                      exact hll
            | succ r ihr =>
              intro j h1 h2
              by_cases e : j = last
              · subst e; exact hll
              · obtain ⟨h3, h4, oj, hoj, ej, hej, hbj, hej2⟩ := cover_spec hup (show j < last by omega)
                have h5 := ihr (up j) (by omega) h4
                have h6 := (hp (up j) oj h5 hoj).2 ej hej hbj
                rw [hej2] at h6
                exact h6
          have h7 := key last i (by omega) (by omega)
          have h8 : listed.getD i false = false := by
            have hil : i < listed.size := by omega
            simpa [hil] using h0
          rw [h8] at h7
          cases h7
      have hstep := hst.at_ i o hl' a w (hC.1 hl0) hs ⟨hk, fun e he hb oj hj => (hp e.on oj (by have := hall e he hb; simpa using this) hj).1⟩
      rw [Nat.zero_add] at hstep
      have go : ∀ (v : Value) (w' : World), pst C D last i w' → φ i (slots (a.put o.dst v)) w' → (∀ j u, φ j u w → φ j u w') → wpAny P .any ops Q fuel (listed.setIfInBounds i true) (a.put o.dst v) w' := by
        intro v w' hC' hv hm
        refine ih _ _ _ (by simpa using hsz) ?_ ?_ (by rw [put_size]; exact hs) (by rw [put_defers]; exact hd) ?_ ?_
        · have hil : i < listed.size := by omega
          have e0 : listed[i] = false := by simpa [hil] using h0
          rw [Array.toList_setIfInBounds, List.count_set (by simpa using hil)]
          have : listed.toList[i]'(by simpa using hil) = false := by simpa using e0
          simp only [this]
          simp
          have hpos : 0 < listed.toList.count false := List.count_pos_iff.2 (by rw [← e0]; simp)
          simp at hpos
          simp at hc
          omega
        · by_cases e : i = last
          · subst e
            refine ⟨fun h => ?_, fun _ => by simpa [pst] using hC'⟩
            rw [getD_set_same (by omega)] at h
            cases h
          · rw [getD_set_ne false e]
            refine ⟨fun _ => ?_, fun h => ?_⟩
            · unfold pst at hC'
              rw [show Nat.beq i last = false from by cases hb : Nat.beq i last with | false => rfl | true => exact absurd (Nat.eq_of_beq_eq_true hb) e] at hC'
              exact hC'
            · rw [hl0] at h; cases h
        · intro t ht
          have hne : o.dst ≠ some t := fun e => by
            simp only [isDst, List.any_eq_false] at ht
            exact ht o (List.mem_of_getElem? hl') (by simp [e])
          rw [put_other _ _ _ _ hne]
          exact hk t ht
        · intro j oj hj hoj
          by_cases e : i = j
          · subst e
            have : oj = o := Option.some.inj (hoj.symm.trans ho)
            subst this
            refine ⟨hv, fun e he hb => ?_⟩
            have h1 := hall e he hb
            by_cases q : i = e.on
            · rw [← q]; exact getD_set_same (by omega)
            · rw [getD_set_ne false q]; simpa using h1
          · rw [getD_set_ne false e] at hj
            obtain ⟨h1, h2⟩ := hp j oj hj hoj
            refine ⟨hm _ _ (hrd j _ _ w (fun t ht => ?_) h1), fun e' he hb => ?_⟩
            · have hne : o.dst ≠ some t := fun hd' => by
                rcases own_spec hown hoj ht with h3 | h3 | ⟨e', he, hb, ok, hok, hkd⟩
                · exact distinct_spec hdist i j o oj t hl' (by simpa using hoj) e hd' h3
                · simp only [isDst, List.any_eq_false] at h3
                  exact h3 o (List.mem_of_getElem? hl') (by simp [hd'])
                · have h4 := h2 e' he hb
                  have h5 : i ≠ e'.on := fun q => by rw [← q, getD_both h0] at h4; cases h4
                  exact distinct_spec hdist i e'.on o ok t hl' (by simpa using hok) h5 hd' hkd
              exact (put_other _ _ _ _ hne).symm
            · by_cases q : i = e'.on
              · rw [← q]; exact getD_set_same (by omega)
              · rw [getD_set_ne false q]; exact h2 e' he hb
      unfold wpOp
      rw [ho]
      simp only
      obtain ⟨hwant, hstep⟩ := hstep
      unfold StepT at hstep
      split
      · rename_i hw
        rw [if_pos hw] at hstep
        refine .inl (Oper.wp_mono ?_ hstep)
        rintro a' w' ⟨v, rfl, hC', hv, hR⟩
        exact go v w' hC' hv (fun j u h => hφ j u w w' hR h)
      · rename_i hw
        exact absurd hwant hw

/-- THE LAW. -/
theorem region_tieL {id : Nat} {l : List Oper} {w : World} (C D : World → Prop) (last : Nat) (up : Nat → Nat) (φ : Nat → (Nat → Value) → World → Prop) (R : World → World → Prop) (rd : Nat → List Nat) (rk : Nat → Nat) (hm : P.follows .mixedOrders = true)
    (hB : (distinctB l && rankB l.toArray rk && ownB l.toArray rd && insideB l.toArray) = true) (hL : (decide (l.length = last + 1) && coverB l.toArray up last) = true) (hC : C w.drew)
    (hrd : ∀ i s s' w, (∀ t ∈ rd i, s t = s' t) → φ i s w → φ i s' w) (hφ : ∀ i v w w', R w w' → φ i v w → φ i v w') (hst : StepsTL P l.toArray Q C D last φ R a0 0 l)
    (hQ : ∀ (f : Oper → Value) w, D w → (∀ i o, l[i]? = some o → φ i (slots (putAll f l a0)) w) → Q .normal (putAll f l a0) w) : (Code.region id l.toArray true).wp P Q a0 w := by
  simp only [Bool.and_eq_true] at hB
  rw [Bool.and_eq_true, decide_eq_true_eq] at hL
  refine wp_region_any hm (wpAny_tieL (C := C) (D := D) last up (by simpa using hL.1) hL.2 (φ := φ) (R := R) (a0 := a0) rd rk hB.1.1.1 hB.1.1.2 (inside_spec hB.2) hB.1.2 hrd hφ hst (fun f w hC h => hQ f w hC (fun i o ho => h i o (by simpa using ho))) _ _ _ w.drew (by simp) (by simp) ⟨fun _ => hC, fun h => ?_⟩ rfl rfl (fun _ _ => rfl) ?_)
  · simp [hL.1] at h
  intro i o hi
  simp at hi
  rcases Nat.lt_or_ge i l.length with h | h
  · simp [h] at hi
  · simp [Nat.not_lt.2 h] at hi

end
end Go.Proofs.YtoeomlmnejhgpaaDoor

/- bailiwicklaw01.WordShifts: the statement about it, and its card. CONDITIONS: the row's own: its three listed tables of the library read, when the call begins, as the program's text lays them; the card ties them to that text. (With it, merged: OpenB · Tie0 · Divs · ShiftsAny · WordShifts.) -/
import Derived.Test.YthfadinocadhaaaDoorM6
import Derived.ChangeShapes
import Derived.Test.YthfadinocadhaaaDoorM3
import Derived.StillTail
import Derived.Laws.CopyOwn
import Derived.Test.YthfadinocadhaaaDoorM4
import Derived.Test.YthfadinocadhaaaDoorM5
namespace Go.Proofs.YthfadinocadhaaaDoor
open Go.ChangeShapes Go.WideShapes Go.ChangeAt Go.RowKit

set_option maxRecDepth 100000 in
theorem open_byte {H : Type} {enc : TypeId × Value → H} {W : World} {base b2 : Nat} {sp : Nat → Bool} {hd : Bool} {v : Value} {d : DataW H} {ps : List MemPlace}
    (hv : Value.okWide Tryd.prog W .any base 5 v) (h : DataW.Trod enc Tryd.prog W b2 sp hd 5 v d ps) : ∃ x : Nat, v = .int .u8 ((x % 256 : Nat) : Int) := by
  obtain ⟨z, rfl, -, -, w⟩ := open_int Tryd.underlying5 hv h
  obtain ⟨h0, h1⟩ := bounds_u8 w
  clear h hv w
  obtain ⟨n, rfl⟩ := Int.eq_ofNat_of_zero_le h0
  exact ⟨n, by rw [Nat.mod_eq_of_lt (by omega)]⟩
end Go.Proofs.YthfadinocadhaaaDoor
namespace Go.Proofs.YthfadinocadhaaaDoor
open Go.RowKit

def slots (a : Act) (t : Nat) : Value := a.tmps.getD t undef

theorem getD_set_same {listed : Array Bool} {i : Nat} (h : i < listed.size) : (listed.setIfInBounds i true).getD i false = true := by simp [h]

section
variable {P : Program} {ops : Array Oper} {Q : Exit → Act → World → Prop} {C : World → Prop} {φ : Nat → (Nat → Value) → World → Prop} {R : World → World → Prop} {a0 : Act}

/-- What is known where an operation comes up. -/
def KnownT (ops : Array Oper) (φ : Nat → (Nat → Value) → World → Prop) (a0 : Act) (o : Oper) (a : Act) (w : World) : Prop :=
  (∀ t, isDst ops.toList t = false → a.tmps.getD t undef = a0.tmps.getD t undef) ∧ (∀ e ∈ o.after, Region.binds .any e = true → ∀ oj, ops[e.on]? = some oj → φ e.on (slots a) w)
def StepT (P : Program) (ops : Array Oper) (Q : Exit → Act → World → Prop) (C : World → Prop) (φ : Nat → (Nat → Value) → World → Prop) (R : World → World → Prop) (k : Nat) (o : Oper) (a : Act) (w : World) : Prop :=
  if Region.wanted o (yielded ops a.tmps) then o.wp P a w (fun a' w' => ∃ v, a' = a.put o.dst v ∧ C w' ∧ φ k (slots (a.put o.dst v)) w' ∧ R w w') Q else φ k (slots (a.put o.dst undef)) w
def StepsT (P : Program) (ops : Array Oper) (Q : Exit → Act → World → Prop) (C : World → Prop) (φ : Nat → (Nat → Value) → World → Prop) (R : World → World → Prop) (a0 : Act) : Nat → List Oper → Prop
  | _, [] => True
  | k, o :: l => (∀ a w, C w → a.tmps.size = a0.tmps.size → KnownT ops φ a0 o a w → StepT P ops Q C φ R k o a w) ∧ StepsT P ops Q C φ R a0 (k + 1) l
theorem StepsT.at_ : ∀ {l : List Oper} {k : Nat}, StepsT P ops Q C φ R a0 k l → ∀ (i : Nat) (o : Oper), l[i]? = some o → ∀ a w, C w → a.tmps.size = a0.tmps.size → KnownT ops φ a0 o a w → StepT P ops Q C φ R (k + i) o a w
  | [], _, _, i, o, hi => by simp at hi
  | o :: l, k, h, 0, o', hi => by simp at hi; subst hi; exact h.1
  | o :: l, k, h, i + 1, o', hi => by
    have := StepsT.at_ h.2 i o' (by simpa using hi)
    rwa [show k + 1 + i = k + (i + 1) by omega] at this

/-- There is a rank by which each operation stands behind those that it waits for. -/
def rankB (ops : Array Oper) (rk : Nat → Nat) : Bool := (List.range ops.size).all fun i => match ops[i]? with
  | some o => o.after.all fun e => !Region.binds .any e || decide (rk e.on < rk i)
  | none => true

def insideB (ops : Array Oper) : Bool := ops.all fun o => o.after.all fun e => decide (e.on < ops.size)
theorem inside_spec (h : insideB ops = true) (i : Nat) (o : Oper) (ho : ops[i]? = some o) (e : Edge) (he : e ∈ o.after) : e.on < ops.size := by
  unfold insideB at h
  simp only [Array.all_eq_true_iff_forall_mem, decide_eq_true_eq] at h
  exact h o (Array.mem_of_getElem? ho) e he

/-- Each operation's slots are its own and those of operations that it waits for. -/
def ownB (ops : Array Oper) (rd : Nat → List Nat) : Bool := (List.range ops.size).all fun i => match ops[i]? with
  | some o => (rd i).all fun t => o.dst == some t || !isDst ops.toList t || o.after.any fun e => Region.binds .any e && (match ops[e.on]? with | some oj => oj.dst == some t | none => false)
  | none => true
theorem own_spec {rd : Nat → List Nat} (h : ownB ops rd = true) {i : Nat} {o : Oper} (ho : ops[i]? = some o) {t : Nat} (ht : t ∈ rd i) :
    o.dst = some t ∨ isDst ops.toList t = false ∨ ∃ e ∈ o.after, Region.binds .any e = true ∧ ∃ oj, ops[e.on]? = some oj ∧ oj.dst = some t := by
  unfold ownB at h
  rw [List.all_eq_true] at h
  have h1 := h i (by simpa using (Array.getElem?_eq_some_iff.1 ho).1)
  rw [ho] at h1
  simp only [List.all_eq_true] at h1
  have h2 := h1 t ht
  simp only [Bool.or_eq_true, beq_iff_eq, Bool.not_eq_true'] at h2
  rcases h2 with (h2 | h2) | h2
  · exact .inl h2
  · exact .inr (.inl h2)
  · refine .inr (.inr ?_)
    rw [Array.any_eq_true] at h2
    obtain ⟨k, hk, h3⟩ := h2
    have he : o.after[k] ∈ o.after := Array.getElem_mem hk
    generalize o.after[k] = e at *
    rw [Bool.and_eq_true] at h3
    refine ⟨e, he, h3.1, ?_⟩
    have h4 := h3.2
    cases hj : ops[e.on]? with
    | none => rw [hj] at h4; cases h4
    | some oj => rw [hj] at h4; exact ⟨oj, rfl, by simpa using h4⟩

theorem wpAny_tie (rd : Nat → List Nat) (rk : Nat → Nat) (hdist : distinctB ops.toList = true) (hlex : rankB ops rk = true) (hon : ∀ (i : Nat) (o : Oper), ops[i]? = some o → ∀ e ∈ o.after, e.on < ops.size) (hown : ownB ops rd = true)
    (hrd : ∀ i s s' w, (∀ t ∈ rd i, s t = s' t) → φ i s w → φ i s' w)
    (hφ : ∀ i v w w', R w w' → φ i v w → φ i v w') (hst : StepsT P ops Q C φ R a0 0 ops.toList)
    (hQ : ∀ (f : Oper → Value) w, C w → (∀ i o, ops[i]? = some o → φ i (slots (putAll f ops.toList a0)) w) → Q .normal (putAll f ops.toList a0) w) :
    ∀ (fuel : Nat) (listed : Array Bool) (a : Act) (w : World), listed.size = ops.size → listed.toList.count false ≤ fuel → C w → a.tmps.size = a0.tmps.size → a.defers = a0.defers →
      (∀ t, isDst ops.toList t = false → a.tmps.getD t undef = a0.tmps.getD t undef) → (∀ i o, listed.getD i false = true → ops[i]? = some o → φ i (slots a) w ∧ ∀ e ∈ o.after, Region.binds .any e = true → listed.getD e.on false = true) → wpAny P .any ops Q fuel listed a w := by
  have done : ∀ (listed : Array Bool) (a : Act) (w : World), (∀ i, i < ops.size → listed.getD i false = true) → C w → a.tmps.size = a0.tmps.size → a.defers = a0.defers →
      (∀ t, isDst ops.toList t = false → a.tmps.getD t undef = a0.tmps.getD t undef) → (∀ i o, listed.getD i false = true → ops[i]? = some o → φ i (slots a) w ∧ ∀ e ∈ o.after, Region.binds .any e = true → listed.getD e.on false = true) → Q .normal a w := by
    intro listed a w hall hC hs hd hk hp
    have hb := put_back hs hd hk
    rw [hb]
    exact hQ _ w hC (fun i o ho => by rw [← hb]; exact (hp i o (hall i (Array.getElem?_eq_some_iff.1 ho).1) ho).1)
  intro fuel
  induction fuel with
  | zero =>
    intro listed a w hsz hc hC hs hd hk hp
    have hno : false ∉ listed.toList := List.count_eq_zero.1 (by omega)
    have hall : ∀ i, i < ops.size → listed.getD i false = true := fun i hi => by
      have hlt : i < listed.size := by omega
      have hm : listed[i] ∈ listed.toList := by simp
      simp only [Array.getD_eq_getD_getElem?, hlt, Array.getElem?_eq_getElem, Option.getD_some]
      cases h : listed[i] with
      | true => rfl
      | false => rw [h] at hm; exact absurd hm hno
    refine ⟨?_, done listed a w hall hC hs hd hk hp⟩
    rw [List.eq_nil_iff_forall_not_mem]
    intro j hj
    obtain ⟨h0, o, ho, -⟩ := mem_ready.1 hj
    have hlt := (Array.getElem?_eq_some_iff.1 ho).1
    have h1 := hall j hlt
    simp [show j < listed.size by omega] at h0 h1
    rw [h0] at h1
    cases h1
  | succ fuel ih =>
    intro listed a w hsz hc hC hs hd hk hp
    refine ⟨fun hr => ?_, fun i hi => ?_⟩
    · refine done listed a w ?_ hC hs hd hk hp
      -- the least that isn't listed would be ready
      have key : ∀ r i, rk i < r → i < ops.size → listed.getD i false = true := by
        intro r
        induction r with
        | zero => intro i h; omega
        | succ r ihr =>
          intro i hri hi
          cases h : listed.getD i false with
          | true => rfl
          | false =>
            have ho : ops[i]? = some ops[i] := Array.getElem?_eq_getElem hi
            have : i ∈ Region.ready .any ops listed := mem_ready.2 ⟨by simpa [show i < listed.size by omega] using h, ops[i], ho, fun e he hb => by
              have hl := hlex
              unfold rankB at hl
              rw [List.all_eq_true] at hl
              have := hl i (by simpa using hi)
              rw [ho] at this
              simp only [Array.all_eq_true_iff_forall_mem] at this
              have hlt := this e he
              rw [hb] at hlt
              simp at hlt
              exact ihr e.on (by omega) (hon i _ ho e he)⟩
            rw [hr] at this
            cases this
      exact fun i hi => key (rk i + 1) i (by omega) hi
    · obtain ⟨h0, o, ho, hall⟩ := mem_ready.1 hi
      have hlt : i < ops.size := (Array.getElem?_eq_some_iff.1 ho).1
      have hl' : ops.toList[i]? = some o := by simpa using ho
      have hstep := hst.at_ i o hl' a w hC hs ⟨hk, fun e he hb oj hj => (hp e.on oj (by have := hall e he hb; simpa using this) hj).1⟩
      rw [Nat.zero_add] at hstep
      have go : ∀ (v : Value) (w' : World), C w' → φ i (slots (a.put o.dst v)) w' → (∀ j u, φ j u w → φ j u w') → wpAny P .any ops Q fuel (listed.setIfInBounds i true) (a.put o.dst v) w' := by
        intro v w' hC' hv hm
        refine ih _ _ _ (by simpa using hsz) ?_ hC' (by rw [put_size]; exact hs) (by rw [put_defers]; exact hd) ?_ ?_
        · have hil : i < listed.size := by omega
          have e0 : listed[i] = false := by simpa [hil] using h0
          rw [Array.toList_setIfInBounds, List.count_set (by simpa using hil)]
          have : listed.toList[i]'(by simpa using hil) = false := by simpa using e0
          simp only [this]
          simp
          have hpos : 0 < listed.toList.count false := List.count_pos_iff.2 (by rw [← e0]; simp)
          simp at hpos
          simp at hc
          omega
        · intro t ht
          have hne : o.dst ≠ some t := fun e => by
            simp only [isDst, List.any_eq_false] at ht
            exact ht o (List.mem_of_getElem? hl') (by simp [e])
          rw [put_other _ _ _ _ hne]
          exact hk t ht
        · intro j oj hj hoj
          by_cases e : i = j
          · subst e
            have : oj = o := Option.some.inj (hoj.symm.trans ho)
            subst this
            refine ⟨hv, fun e he hb => ?_⟩
            have h1 := hall e he hb
            by_cases q : i = e.on
            · rw [← q]; exact getD_set_same (by omega)
            · rw [getD_set_ne false q]; simpa using h1
          · rw [getD_set_ne false e] at hj
            obtain ⟨h1, h2⟩ := hp j oj hj hoj
            refine ⟨hm _ _ (hrd j _ _ w (fun t ht => ?_) h1), fun e' he hb => ?_⟩
            · have hne : o.dst ≠ some t := fun hd' => by
                rcases own_spec hown hoj ht with h3 | h3 | ⟨e', he, hb, ok, hok, hkd⟩
                · exact distinct_spec hdist i j o oj t hl' (by simpa using hoj) e hd' h3
                · simp only [isDst, List.any_eq_false] at h3
                  exact h3 o (List.mem_of_getElem? hl') (by simp [hd'])
                · have h4 := h2 e' he hb
                  have h5 : i ≠ e'.on := fun q => by rw [← q, getD_both h0] at h4; cases h4
                  exact distinct_spec hdist i e'.on o ok t hl' (by simpa using hok) h5 hd' hkd
              exact (put_other _ _ _ _ hne).symm
            · by_cases q : i = e'.on
              · rw [← q]; exact getD_set_same (by omega)
              · rw [getD_set_ne false q]; exact h2 e' he hb
      unfold wpOp
      rw [ho]
      simp only
      unfold StepT at hstep
      split
      · rename_i hw
        rw [if_pos hw] at hstep
        refine .inl (Oper.wp_mono ?_ hstep)
        rintro a' w' ⟨v, rfl, hC', hv, hR⟩
        exact go v w' hC' hv (fun j u h => hφ j u w w' hR h)
      · rename_i hw
        rw [if_neg hw] at hstep
        exact go undef w hC hstep (fun j u h => h)

/-- THE LAW. -/
theorem region_tie {id : Nat} {l : List Oper} {w : World} (C : World → Prop) (φ : Nat → (Nat → Value) → World → Prop) (R : World → World → Prop) (rd : Nat → List Nat) (rk : Nat → Nat) (hm : P.follows .mixedOrders = true)
    (hB : (distinctB l && rankB l.toArray rk && ownB l.toArray rd && insideB l.toArray) = true) (hC : C w.drew)
    (hrd : ∀ i s s' w, (∀ t ∈ rd i, s t = s' t) → φ i s w → φ i s' w) (hφ : ∀ i v w w', R w w' → φ i v w → φ i v w') (hst : StepsT P l.toArray Q C φ R a0 0 l)
    (hQ : ∀ (f : Oper → Value) w, C w → (∀ i o, l[i]? = some o → φ i (slots (putAll f l a0)) w) → Q .normal (putAll f l a0) w) : (Code.region id l.toArray true).wp P Q a0 w := by
  simp only [Bool.and_eq_true] at hB
  refine wp_region_any hm (wpAny_tie (C := C) (φ := φ) (R := R) (a0 := a0) rd rk hB.1.1.1 hB.1.1.2 (inside_spec hB.2) hB.1.2 hrd hφ hst (fun f w hC h => hQ f w hC (fun i o ho => h i o (by simpa using ho))) _ _ _ w.drew (by simp) (by simp) hC rfl rfl (fun _ _ => rfl) ?_)
  intro i o hi
  simp at hi
  rcases Nat.lt_or_ge i l.length with h | h
  · simp [h] at hi
  · simp [Nat.not_lt.2 h] at hi

/-! What each kind of operation must do. -/
theorem tt_val {k : Nat} {o : Oper} {a : Act} {w : World} (v : Value) (hw : Region.wanted o (yielded ops a.tmps) = true) (hr : (execOp a.eval o).run P w = .ok (.value v) w) (hC : C w) (hv : φ k (slots (a.put o.dst v)) w) (hR : R w w) : StepT P ops Q C φ R k o a w := by
  unfold StepT
  rw [if_pos hw]
  unfold Oper.wp
  rw [hr]
  exact ⟨v, rfl, hC, hv, hR⟩
theorem tt_skip {k : Nat} {o : Oper} {a : Act} {w : World} (hw : Region.wanted o (yielded ops a.tmps) = false) (hv : φ k (slots (a.put o.dst undef)) w) : StepT P ops Q C φ R k o a w := by
  unfold StepT
  rw [if_neg (by rw [hw]; exact Bool.false_ne_true)]
  exact hv
theorem tt_new {k : Nat} {o : Oper} {a : Act} {w w' : World} (v : Value) (hw : Region.wanted o (yielded ops a.tmps) = true) (hr : (execOp a.eval o).run P w = .ok (.value v) w') (hC : C w') (hv : φ k (slots (a.put o.dst v)) w') (hR : R w w') : StepT P ops Q C φ R k o a w := by
  unfold StepT
  rw [if_pos hw]
  unfold Oper.wp
  rw [hr]
  exact ⟨v, rfl, hC, hv, hR⟩
theorem tt_v {k : Nat} {o : Oper} {a : Act} {w w' : World} (s : Sem Value) (v : Value) (hw : Region.wanted o (yielded ops a.tmps) = true) (ho : execOp a.eval o = (do let x ← s; pure (.value x))) (hr : s.run P w = .ok v w') (hC : C w') (hv : φ k (slots (a.put o.dst v)) w') (hR : R w w') : StepT P ops Q C φ R k o a w :=
  tt_new v hw (by rw [ho]; simp only [Sem.run_bind, hr, Result.andThen_ok, Sem.run_pure]) hC hv hR
theorem slots_put (a : Act) (d : Nat) (v : Value) (h : d < a.tmps.size) : slots (a.put (some d) v) d = v := put_same a d v h
theorem slots_other (a : Act) (d t : Nat) (v : Value) (h : d ≠ t) : slots (a.put (some d) v) t = slots a t := put_other a (some d) v t (by simpa using h)
theorem tt_load {k : Nat} {o : Oper} {a : Act} {w : World} (T : TypeId) (x : Operand) (p v : Value) (ho : o.op = .load T x) (hw : Region.wanted o (yielded ops a.tmps) = true) (hp : a.eval x = p)
    (hr : (Instr.loadAt T p).run P w = .ok v w) (hC : C w) (hv : φ k (slots (a.put o.dst v)) w) (hR : R w w) : StepT P ops Q C φ R k o a w :=
  tt_val v hw (by
    unfold execOp
    rw [ho]
    simp only [hp, Sem.run_bind, hr, Result.andThen_ok, Sem.run_pure]) hC hv hR
theorem tt_call {k : Nat} {o : Oper} {a : Act} {w : World} (f : FuncId) (args : Array Value) (hw : Region.wanted o (yielded ops a.tmps) = true) (he : (execOp a.eval o).run P w = .ok (.enter f args) w)
    (hc : Calls P f args w fun e w' => ∃ v, e = .returned v ∧ C w' ∧ φ k (slots (a.put o.dst v)) w' ∧ R w w') : StepT P ops Q C φ R k o a w := by
  unfold StepT
  rw [if_pos hw]
  unfold Oper.wp
  rw [he]
  refine Calls.mono hc ?_
  rintro e w' ⟨v, rfl, h1, h2, h3⟩
  exact ⟨v, rfl, h1, h2, h3⟩
theorem tt_store {k : Nat} {o : Oper} {a : Act} {w w' : World} (hw : Region.wanted o (yielded ops a.tmps) = true) (hd : o.dst = none) (hr : (execOp a.eval o).run P w = .ok .skip w') (hC : C w') (hv : φ k (slots a) w') (hR : R w w') : StepT P ops Q C φ R k o a w := by
  unfold StepT
  rw [if_pos hw]
  unfold Oper.wp
  rw [hr]
  refine ⟨undef, by rw [hd], hC, ?_, hR⟩
  rw [hd]; exact hv
end

/-- What a region's operations leave as it was: the blocks below h, the others' sizes and types; and who holds what is to be laid (F says what, by its type) goes on to. -/
structure RT (h : Nat) (F : TypeId → Array Value) (w w' : World) : Prop where
  size : w.heap.size ≤ w'.heap.size
  below : ∀ (k : Nat), k < h → w'.heap[k]? = w.heap[k]?
  shape : ∀ (k : Nat) (cs : Array Value) (T : TypeId) (fz : Nat × Nat), w.heap[k]? = some (.cells cs T fz) → ∃ cs' : Array Value, w'.heap[k]? = some (.cells cs' T fz) ∧ cs'.size = cs.size
  keep : ∀ (k : Nat) (T : TypeId) (fz : Nat × Nat), w.heap[k]? = some (.cells (F T) T fz) → w'.heap[k]? = some (.cells (F T) T fz)
theorem RT.refl (h : Nat) (F : TypeId → Array Value) (w : World) : RT h F w w := ⟨Nat.le_refl _, fun _ _ => rfl, fun _ cs _ _ e => ⟨cs, e, rfl⟩, fun _ _ _ e => e⟩
theorem RT.of {h : Nat} {F : TypeId → Array Value} {w w' : World} (hh : h ≤ w.heap.size) (hb : Below w.heap.size w w') : RT h F w w' := by
  have lt : ∀ {k : Nat} {o : Obj}, w.heap[k]? = some o → k < w.heap.size := fun e => (Array.getElem?_eq_some_iff.1 e).1
  exact ⟨hb.size, fun k hk => hb.block k (by omega), fun k cs T fz e => ⟨cs, (hb.block k (lt e)).trans e, rfl⟩, fun _ _ _ e => (hb.block _ (lt e)).trans e⟩
theorem RT.row {h g : Nat} {F : TypeId → Array Value} {w : World} {cs : Array Value} {T : TypeId} {fz : Nat × Nat} (hg : h ≤ g) (e : w.heap[g]? = some (.cells cs T fz)) (hs : cs.size = (F T).size) : RT h F w (w.setRow g (F T)) := by
  refine ⟨Nat.le_of_eq (setRow_size w g (F T)).symm, fun k hk => setRow_other _ _ _ _ (by omega), fun k cs' T' fz' e' => ?_, fun k T' fz' e' => ?_⟩
  · by_cases q : k = g
    · subst q
      rw [e] at e'
      cases e'
      exact ⟨_, setRow_heap _ _ _ _ _ _ e, hs.symm⟩
    · exact ⟨cs', (setRow_other _ _ _ _ q).trans e', rfl⟩
  · by_cases q : k = g
    · subst q
      rw [e] at e'
      cases e'
      exact setRow_heap _ _ _ _ _ _ e
    · exact (setRow_other _ _ _ _ q).trans e'
end Go.Proofs.YthfadinocadhaaaDoor
namespace Go.Proofs.YthfadinocadhaaaDoor
open Go.RowKit

theorem arr_lit (t : Array Value) : t = ((List.range t.size).map fun i => t.getD i undef).toArray := by
  apply Array.ext
  · simp
  · intro i h1 h2
    simp [h1]

/-- The worlds of a function over two words, whose result has a block of its own. -/
structure CR (w : World) (x y : Nat) (wx : World) : Prop where
  old : Below w.heap.size w wx
  r0 : wx.heap[w.heap.size]? = some (.cells (pw x) 24 (0, 0))
  r1 : wx.heap[w.heap.size + 1]? = some (.cells (pw y) 24 (0, 0))
  r2 : wx.heap[w.heap.size + 1 + 1]? = some (.cells #[.int .u64 0, .int .u64 0, .int .u64 0, .int .u64 0] 24 (0, 0))
theorem CR.high {w wx : World} {x y : Nat} (h : CR w x y wx) : w.heap.size + 1 + 1 + 1 ≤ wx.heap.size := (Array.getElem?_eq_some_iff.1 h.r2).1
theorem CR.below {w wx w' : World} {x y : Nat} (h : CR w x y wx) (hb : Below wx.heap.size wx w') : CR w x y w' := by
  have l := h.high
  exact ⟨h.old.trans (hb.mono h.old.size), (hb.block _ (by omega)).trans h.r0, (hb.block _ (by omega)).trans h.r1, (hb.block _ (by omega)).trans h.r2⟩
theorem CR.rowed {w wx : World} {x y g : Nat} {cs : Array Value} (h : CR w x y wx) (hg : w.heap.size + 1 + 1 + 1 ≤ g) : CR w x y (wx.setRow g cs) :=
  ⟨below_setRow h.old (by omega) _, (setRow_other _ _ _ _ (by omega)).trans h.r0, (setRow_other _ _ _ _ (by omega)).trans h.r1, (setRow_other _ _ _ _ (by omega)).trans h.r2⟩

def dw (x : Nat) : Array Value := match dv x with | .agg a => a | _ => #[]
theorem dv_dw (x : Nat) : dv x = .agg (dw x) := rfl
theorem dw_size (x : Nat) : (dw x).size = 8 := rfl
theorem dw_one (x : Nat) : (dw x).all (·.oneCell') = true := by simp [dw, dv, Value.oneCell']
/-- What two blocks are to hold, by their types. -/
def FQ (q r : Nat) (T : TypeId) : Array Value := if T = 58 then dw q else pw r
theorem infoWide : (Tryd.prog.info? 58).map (·.size) = some 8 := by kernel_rfl
theorem store_dw {g q r : Nat} {w : World} {cs : Array Value} (hg : w.heap[g]? = some (.cells cs 58 (0, 0))) (hs : cs.size = (FQ q r 58).size) : (Instr.storeAt 58 (.pointer (some ⟨g, 0, none⟩)) (dv q)).run Tryd.prog w = .ok () (w.setRow g (FQ q r 58)) := by
  rw [dv_dw]
  show _ = Result.ok () (w.setRow g (dw q))
  simp only [Instr.storeAt, Instr.sureAddr, Sem.run_bind, Sem.run_pure, Result.andThen_ok, run_storeVar_row w g 58 58 cs (dw q) hg infoWide hs (dw_one q)]
theorem store_qw {g q r : Nat} {w : World} {cs : Array Value} (hg : w.heap[g]? = some (.cells cs 24 (0, 0))) (hs : cs.size = (FQ q r 24).size) : (Instr.storeAt 24 (.pointer (some ⟨g, 0, none⟩)) (wv r)).run Tryd.prog w = .ok () (w.setRow g (FQ q r 24)) := store_pw hs hg
theorem widen_any (x : Nat) (w : World) : Calls Tryd.prog 75 #[wv x, .slice none 0 0] w fun e w' => e = .returned (dv (x % 115792089237316195423570985008687907853269984665640564039457584007913129639936)) ∧ Below w.heap.size w w' := by
  obtain ⟨a0, a1, a2, a3, u0, u1, u2, u3, ea, na⟩ := wv_parts x
  have h := widen_nil a0 a1 a2 a3 w
  rw [ea, ← na]
  have hn : dv (n4 a0 a1 a2 a3) = .agg #[.int .u64 a0, .int .u64 a1, .int .u64 a2, .int .u64 a3, .int .u64 0, .int .u64 0, .int .u64 0, .int .u64 0] := by
    have := dv_n8 (a4 := 0) (a5 := 0) (a6 := 0) (a7 := 0) u0 u1 u2 u3 (by omega) (by omega) (by omega) (by omega)
    rw [show n8 a0 a1 a2 a3 0 0 0 0 = n4 a0 a1 a2 a3 by unfold n8 n4; omega] at this
    exact this
  rw [hn]
  exact h
theorem narrow_any (x : Nat) (w : World) : Calls Tryd.prog 66 #[dv x] w fun e w' => e = .returned (wv x) ∧ Below w.heap.size w w' := by
  rw [dv_row, wv_row]
  exact narrow_walk _ _ _ _ _ _ _ _ w
/-- What divide tells. -/
def quoV (a y : Nat) : Nat := if y % 115792089237316195423570985008687907853269984665640564039457584007913129639936 = 0 then 0 else a / (y % 115792089237316195423570985008687907853269984665640564039457584007913129639936)
def remV (a y : Nat) : Nat := if y % 115792089237316195423570985008687907853269984665640564039457584007913129639936 = 0 then 0 else a % (y % 115792089237316195423570985008687907853269984665640564039457584007913129639936)
theorem divide_all (a y : Nat) (ha : a < 13407807929942597099574024998205846127479365820592393377723561443721764030073546976801874298166903427690031858186486050853753882811946569946433649006084096) (w : World) : Calls Tryd.prog 74 #[dv a, wv y] w fun e w' => e = .returned (.tuple #[dv (quoV a y), wv (remV a y)]) ∧ Below w.heap.size w w' := by
  rw [show wv y = wv (y % 115792089237316195423570985008687907853269984665640564039457584007913129639936) from wv_congr (Nat.mod_mod _ _).symm]
  unfold quoV remV
  by_cases h : y % 115792089237316195423570985008687907853269984665640564039457584007913129639936 = 0
  · rw [if_pos h, if_pos h, h]; exact divide_none a w
  · rw [if_neg h, if_neg h]; exact divide_any a _ ha h (Nat.mod_lt _ (by omega)) w
theorem below_self {B : Nat} (w : World) : Below B w w := Below.refl B w

set_option maxRecDepth 100000 in
set_option maxHeartbeats 2000000 in
-- WHAT word.Div COMES TO.
theorem div_any (x y : Nat) (w : World) : Calls Tryd.prog 25 #[wv x, wv y] w fun e w' => e = .returned (wv (quoV (x % 115792089237316195423570985008687907853269984665640564039457584007913129639936) y)) ∧ Below w.heap.size w w' := by
  rw [wv_pw x, wv_pw y]
  go_enter Tryd.func25, Tryd.ntmps25
  go_wp2_with fail
  refine region_tie (CR w x y) (fun i s wx => match i with | 0 => s 8 = wv x | 1 => s 9 = dv (x % 115792089237316195423570985008687907853269984665640564039457584007913129639936) | 2 => s 10 = wv y | 3 => s 11 = .tuple #[dv (quoV (x % 115792089237316195423570985008687907853269984665640564039457584007913129639936) y), wv (remV (x % 115792089237316195423570985008687907853269984665640564039457584007913129639936) y)] | 4 => s 7 = .tuple #[dv (quoV (x % 115792089237316195423570985008687907853269984665640564039457584007913129639936) y), wv (remV (x % 115792089237316195423570985008687907853269984665640564039457584007913129639936) y)] | 5 => s 12 = dv (quoV (x % 115792089237316195423570985008687907853269984665640564039457584007913129639936) y) | 6 => s 13 = wv (remV (x % 115792089237316195423570985008687907853269984665640564039457584007913129639936) y) | 7 => ∃ D, s 5 = .pointer (some ⟨D, 0, none⟩) ∧ w.heap.size + 1 + 1 + 1 ≤ D ∧ ∃ cs, wx.heap[D]? = some (.cells cs 58 (0, 0)) ∧ cs.size = 8 | 8 => ∃ D, s 6 = .pointer (some ⟨D, 0, none⟩) ∧ w.heap.size + 1 + 1 + 1 ≤ D ∧ ∃ cs, wx.heap[D]? = some (.cells cs 24 (0, 0)) ∧ cs.size = 4 | 9 => ∃ D, s 5 = .pointer (some ⟨D, 0, none⟩) ∧ w.heap.size + 1 + 1 + 1 ≤ D ∧ wx.heap[D]? = some (.cells (FQ (quoV (x % 115792089237316195423570985008687907853269984665640564039457584007913129639936) y) (remV (x % 115792089237316195423570985008687907853269984665640564039457584007913129639936) y) 58) 58 (0, 0)) | 10 => ∃ D, s 6 = .pointer (some ⟨D, 0, none⟩) ∧ w.heap.size + 1 + 1 + 1 ≤ D ∧ wx.heap[D]? = some (.cells (FQ (quoV (x % 115792089237316195423570985008687907853269984665640564039457584007913129639936) y) (remV (x % 115792089237316195423570985008687907853269984665640564039457584007913129639936) y) 24) 24 (0, 0)) | _ => True) (RT (w.heap.size + 1 + 1 + 1) (FQ (quoV (x % 115792089237316195423570985008687907853269984665640564039457584007913129639936) y) (remV (x % 115792089237316195423570985008687907853269984665640564039457584007913129639936) y))) (fun i => match i with | 0 => [8] | 1 => [9] | 2 => [10] | 3 => [11] | 4 => [7] | 5 => [12] | 6 => [13] | 7 => [5] | 8 => [6] | 9 => [5] | 10 => [6] | _ => []) (fun i => i) (by kernel_rfl) (by kernel_rfl) ⟨by go_grown, (heap3 _ _ _ _).1, (heap3 _ _ _ _).2.1, (heap3 _ _ _ _).2.2⟩ ?_ ?_ ?_ ?_
  · intro i s s' wx he hp
    match i, he, hp with
    | 0, he, hp => exact (he 8 (by simp)).symm.trans hp
    | 1, he, hp => exact (he 9 (by simp)).symm.trans hp
    | 2, he, hp => exact (he 10 (by simp)).symm.trans hp
    | 3, he, hp => exact (he 11 (by simp)).symm.trans hp
    | 4, he, hp => exact (he 7 (by simp)).symm.trans hp
    | 5, he, hp => exact (he 12 (by simp)).symm.trans hp
    | 6, he, hp => exact (he 13 (by simp)).symm.trans hp
    | 7, he, hp => obtain ⟨D, h1, h2⟩ := hp; exact ⟨D, (he 5 (by simp)).symm.trans h1, h2⟩
    | 8, he, hp => obtain ⟨D, h1, h2⟩ := hp; exact ⟨D, (he 6 (by simp)).symm.trans h1, h2⟩
    | 9, he, hp => obtain ⟨D, h1, h2⟩ := hp; exact ⟨D, (he 5 (by simp)).symm.trans h1, h2⟩
    | 10, he, hp => obtain ⟨D, h1, h2⟩ := hp; exact ⟨D, (he 6 (by simp)).symm.trans h1, h2⟩
    | _ + 11, _, _ => trivial
  · intro i s wa wb hR hp
    match i, hp with
    | 0, hp => exact hp
    | 1, hp => exact hp
    | 2, hp => exact hp
    | 3, hp => exact hp
    | 4, hp => exact hp
    | 5, hp => exact hp
    | 6, hp => exact hp
    | 7, hp => obtain ⟨D, h1, h2, cs, h3, h4⟩ := hp; obtain ⟨cs', h5, h6⟩ := hR.shape _ _ _ _ h3; exact ⟨D, h1, h2, cs', h5, h6.trans h4⟩
    | 8, hp => obtain ⟨D, h1, h2, cs, h3, h4⟩ := hp; obtain ⟨cs', h5, h6⟩ := hR.shape _ _ _ _ h3; exact ⟨D, h1, h2, cs', h5, h6.trans h4⟩
    | 9, hp => obtain ⟨D, h1, h2, h3⟩ := hp; exact ⟨D, h1, h2, hR.keep _ _ _ h3⟩
    | 10, hp => obtain ⟨D, h1, h2, h3⟩ := hp; exact ⟨D, h1, h2, hR.keep _ _ _ h3⟩
    | _ + 11, _ => trivial
  · refine ⟨?_, ?_, ?_, ?_, ?_, ?_, ?_, ?_, ?_, ?_, ?_, trivial⟩
    · intro a wx hC hsz hK
      have h0 : a.tmps.getD 2 undef = .pointer (some ⟨w.heap.size, 0, none⟩) := hK.1 2 (by kernel_rfl)
      exact tt_load 24 (.tmp 2) (.pointer (some ⟨w.heap.size, 0, none⟩)) (wv x) rfl (by kernel_rfl) h0 (load_pw hC.r0) hC (slots_put _ _ _ (by rw [hsz]; exact of_decide_eq_true (by kernel_rfl))) (RT.refl _ _ _)
    · intro a wx hC hsz hK
      have h0 : a.tmps.getD 8 undef = wv x := hK.2 ⟨0, .data⟩ (by simp) rfl _ rfl
      refine tt_call 75 #[a.tmps.getD 8 undef, .slice none 0 0] (by kernel_rfl) (by kernel_rfl) ?_
      rw [h0]
      exact ((fun wx => widen_any x wx) wx).mono fun e w' hh => ⟨_, hh.1, hC.below hh.2, slots_put _ _ _ (by rw [hsz]; exact of_decide_eq_true (by kernel_rfl)), RT.of hC.high hh.2⟩
    · intro a wx hC hsz hK
      have h0 : a.tmps.getD 3 undef = .pointer (some ⟨w.heap.size + 1, 0, none⟩) := hK.1 3 (by kernel_rfl)
      exact tt_load 24 (.tmp 3) (.pointer (some ⟨w.heap.size + 1, 0, none⟩)) (wv y) rfl (by kernel_rfl) h0 (load_pw hC.r1) hC (slots_put _ _ _ (by rw [hsz]; exact of_decide_eq_true (by kernel_rfl))) (RT.refl _ _ _)
    · intro a wx hC hsz hK
      have h0 : a.tmps.getD 9 undef = dv (x % 115792089237316195423570985008687907853269984665640564039457584007913129639936) := hK.2 ⟨1, .data⟩ (by simp) rfl _ rfl
      have h1 : a.tmps.getD 10 undef = wv y := hK.2 ⟨2, .data⟩ (by simp) rfl _ rfl
      refine tt_call 74 #[a.tmps.getD 9 undef, a.tmps.getD 10 undef] (by kernel_rfl) (by kernel_rfl) ?_
      rw [h0, h1]
      exact ((fun wx => divide_all (x % 115792089237316195423570985008687907853269984665640564039457584007913129639936) y (by omega) wx) wx).mono fun e w' hh => ⟨_, hh.1, hC.below hh.2, slots_put _ _ _ (by rw [hsz]; exact of_decide_eq_true (by kernel_rfl)), RT.of hC.high hh.2⟩
    · intro a wx hC hsz hK
      have h0 : a.tmps.getD 11 undef = .tuple #[dv (quoV (x % 115792089237316195423570985008687907853269984665640564039457584007913129639936) y), wv (remV (x % 115792089237316195423570985008687907853269984665640564039457584007913129639936) y)] := hK.2 ⟨3, .data⟩ (by simp) rfl _ rfl
      exact tt_val (.tuple #[dv (quoV (x % 115792089237316195423570985008687907853269984665640564039457584007913129639936) y), wv (remV (x % 115792089237316195423570985008687907853269984665640564039457584007913129639936) y)]) (by kernel_rfl) (by rw [← h0]; kernel_rfl) hC (slots_put _ _ _ (by rw [hsz]; exact of_decide_eq_true (by kernel_rfl))) (RT.refl _ _ _)
    · intro a wx hC hsz hK
      have h0 : a.tmps.getD 7 undef = .tuple #[dv (quoV (x % 115792089237316195423570985008687907853269984665640564039457584007913129639936) y), wv (remV (x % 115792089237316195423570985008687907853269984665640564039457584007913129639936) y)] := hK.2 ⟨4, .data⟩ (by simp) rfl _ rfl
      refine tt_v (Instr.extract (a.tmps.getD 7 undef) 0) (dv (quoV (x % 115792089237316195423570985008687907853269984665640564039457584007913129639936) y)) (by kernel_rfl) rfl ?_ hC (slots_put _ _ _ (by rw [hsz]; exact of_decide_eq_true (by kernel_rfl))) (RT.refl _ _ _)
      rw [h0]; kernel_rfl
    · intro a wx hC hsz hK
      have h0 : a.tmps.getD 7 undef = .tuple #[dv (quoV (x % 115792089237316195423570985008687907853269984665640564039457584007913129639936) y), wv (remV (x % 115792089237316195423570985008687907853269984665640564039457584007913129639936) y)] := hK.2 ⟨4, .data⟩ (by simp) rfl _ rfl
      refine tt_v (Instr.extract (a.tmps.getD 7 undef) 1) (wv (remV (x % 115792089237316195423570985008687907853269984665640564039457584007913129639936) y)) (by kernel_rfl) rfl ?_ hC (slots_put _ _ _ (by rw [hsz]; exact of_decide_eq_true (by kernel_rfl))) (RT.refl _ _ _)
      rw [h0]; kernel_rfl
    · intro a wx hC hsz hK
      exact tt_new (.pointer (some ⟨wx.heap.size, 0, none⟩)) (by kernel_rfl) (by kernel_rfl) (hC.below ((Below.refl _ _).alloc (Nat.le_refl _) _)) ⟨_, slots_put _ _ _ (by rw [hsz]; exact of_decide_eq_true (by kernel_rfl)), hC.high, #[.int .u64 0, .int .u64 0, .int .u64 0, .int .u64 0, .int .u64 0, .int .u64 0, .int .u64 0, .int .u64 0], heap_alloc_new _ _, rfl⟩ (RT.of hC.high ((Below.refl _ _).alloc (Nat.le_refl _) _))
    · intro a wx hC hsz hK
      exact tt_new (.pointer (some ⟨wx.heap.size, 0, none⟩)) (by kernel_rfl) (by kernel_rfl) (hC.below ((Below.refl _ _).alloc (Nat.le_refl _) _)) ⟨_, slots_put _ _ _ (by rw [hsz]; exact of_decide_eq_true (by kernel_rfl)), hC.high, #[.int .u64 0, .int .u64 0, .int .u64 0, .int .u64 0], heap_alloc_new _ _, rfl⟩ (RT.of hC.high ((Below.refl _ _).alloc (Nat.le_refl _) _))
    · intro a wx hC hsz hK
      obtain ⟨D, h1, h2, cs, h3, h4⟩ := hK.2 ⟨7, .data⟩ (by simp) rfl _ rfl
      have h0 : a.tmps.getD 12 undef = dv (quoV (x % 115792089237316195423570985008687907853269984665640564039457584007913129639936) y) := hK.2 ⟨5, .data⟩ (by simp) rfl _ rfl
      exact tt_store (by kernel_rfl) rfl (run_store 58 (.tmp 5) (.tmp 12) _ _ rfl h1 h0 (store_dw h3 h4)) (hC.rowed h2) ⟨D, h1, h2, setRow_heap _ _ _ _ _ _ h3⟩ (RT.row h2 h3 h4)
    · intro a wx hC hsz hK
      obtain ⟨D, h1, h2, cs, h3, h4⟩ := hK.2 ⟨8, .data⟩ (by simp) rfl _ rfl
      have h0 : a.tmps.getD 13 undef = wv (remV (x % 115792089237316195423570985008687907853269984665640564039457584007913129639936) y) := hK.2 ⟨6, .data⟩ (by simp) rfl _ rfl
      exact tt_store (by kernel_rfl) rfl (run_store 24 (.tmp 6) (.tmp 13) _ _ rfl h1 h0 (store_qw h3 h4)) (hC.rowed h2) ⟨D, h1, h2, setRow_heap _ _ _ _ _ _ h3⟩ (RT.row h2 h3 h4)
  · intro f wx hC hf
    have s8 := hf 0 _ rfl
    have s9 := hf 1 _ rfl
    have s10 := hf 2 _ rfl
    have s11 := hf 3 _ rfl
    have s7 := hf 4 _ rfl
    have s12 := hf 5 _ rfl
    have s13 := hf 6 _ rfl
    obtain ⟨D5, s5, g5, r5⟩ := hf 9 _ rfl
    obtain ⟨D6, s6, g6, r6⟩ := hf 10 _ rfl
    clear hf
    generalize hA : putAll _ _ _ = A at *
    have hsz : A.tmps.size = 16 := by rw [← hA, putAll_size]; rfl
    have t0 : A.tmps.getD 0 undef = .agg (pw x) := by subst hA; kernel_rfl
    have t1 : A.tmps.getD 1 undef = .agg (pw y) := by subst hA; kernel_rfl
    have t2 : A.tmps.getD 2 undef = .pointer (some ⟨w.heap.size, 0, none⟩) := by subst hA; kernel_rfl
    have t3 : A.tmps.getD 3 undef = .pointer (some ⟨w.heap.size + 1, 0, none⟩) := by subst hA; kernel_rfl
    have t4 : A.tmps.getD 4 undef = .pointer (some ⟨w.heap.size + 1 + 1, 0, none⟩) := by subst hA; kernel_rfl
    have t14 : A.tmps.getD 14 undef = undef := by subst hA; kernel_rfl
    have t15 : A.tmps.getD 15 undef = undef := by subst hA; kernel_rfl
    have hd : A.defers = [] := by subst hA; kernel_rfl
    clear hA
    obtain ⟨tm, df⟩ := A
    simp only [slots] at *
    have hL := arr_lit tm
    rw [hsz] at hL
    simp only [List.range, List.range.loop, List.map] at hL
    rw [t0, t1, t2, t3, t4, s5, s6, s7, s8, s9, s10, s11, s12, s13, t14, t15] at hL
    subst hL hd
    clear t0 t1 t2 t3 t4 s5 s6 s7 s8 s9 s10 s11 s12 s13 t14 t15 hsz
    have hr5 : wx.heap[D5]? = some (.cells (dw (quoV (x % 115792089237316195423570985008687907853269984665640564039457584007913129639936) y)) 58 (0, 0)) := r5
    clear r5 r6
    go_wp2_with (refine wpList_load_row rfl 58 _ rfl D5 rfl 58 (dw (quoV (x % 115792089237316195423570985008687907853269984665640564039457584007913129639936) y)) (0, 0) _ hr5 Tryd.underlying58 rfl infoWide ?_)
    refine (narrow_any _ _).mono ?_
    rintro e w1 ⟨rfl, hb⟩
    have hC1 := hC.below hb
    go_wp2_with (refine wpList_store_row rfl 24 _ _ rfl (w.heap.size + 1 + 1) (pw (quoV (x % 115792089237316195423570985008687907853269984665640564039457584007913129639936) y)) rfl rfl 24 #[.int .u64 0, .int .u64 0, .int .u64 0, .int .u64 0] hC1.r2 infoWord rfl (pw_one _) ?_)
    (try simp only [Exit.inBlock, Exit.then])
    exact bodyPost_ret (v := .agg (pw (quoV (x % 115792089237316195423570985008687907853269984665640564039457584007913129639936) y))) (results_cell_row (p := 4) rfl _ _ (w.heap.size + 1 + 1) 24 _ (0, 0) _ rfl (setRow_heap _ _ _ _ _ _ hC1.r2) Tryd.underlying24 rfl infoWord) rfl ⟨rfl, below_setRow hC1.old (by omega) _⟩

set_option maxRecDepth 100000 in
set_option maxHeartbeats 2000000 in
-- WHAT word.Mod COMES TO.
theorem mod_any (x y : Nat) (w : World) : Calls Tryd.prog 26 #[wv x, wv y] w fun e w' => e = .returned (wv (remV (x % 115792089237316195423570985008687907853269984665640564039457584007913129639936) y)) ∧ Below w.heap.size w w' := by
  rw [wv_pw x, wv_pw y]
  go_enter Tryd.func26, Tryd.ntmps26
  go_wp2_with fail
  refine region_tie (CR w x y) (fun i s wx => match i with | 0 => s 8 = wv x | 1 => s 9 = dv (x % 115792089237316195423570985008687907853269984665640564039457584007913129639936) | 2 => s 10 = wv y | 3 => s 11 = .tuple #[dv (quoV (x % 115792089237316195423570985008687907853269984665640564039457584007913129639936) y), wv (remV (x % 115792089237316195423570985008687907853269984665640564039457584007913129639936) y)] | 4 => s 7 = .tuple #[dv (quoV (x % 115792089237316195423570985008687907853269984665640564039457584007913129639936) y), wv (remV (x % 115792089237316195423570985008687907853269984665640564039457584007913129639936) y)] | 5 => s 12 = dv (quoV (x % 115792089237316195423570985008687907853269984665640564039457584007913129639936) y) | 6 => s 13 = wv (remV (x % 115792089237316195423570985008687907853269984665640564039457584007913129639936) y) | 7 => ∃ D, s 5 = .pointer (some ⟨D, 0, none⟩) ∧ w.heap.size + 1 + 1 + 1 ≤ D ∧ ∃ cs, wx.heap[D]? = some (.cells cs 58 (0, 0)) ∧ cs.size = 8 | 8 => ∃ D, s 6 = .pointer (some ⟨D, 0, none⟩) ∧ w.heap.size + 1 + 1 + 1 ≤ D ∧ ∃ cs, wx.heap[D]? = some (.cells cs 24 (0, 0)) ∧ cs.size = 4 | 9 => ∃ D, s 5 = .pointer (some ⟨D, 0, none⟩) ∧ w.heap.size + 1 + 1 + 1 ≤ D ∧ wx.heap[D]? = some (.cells (FQ (quoV (x % 115792089237316195423570985008687907853269984665640564039457584007913129639936) y) (remV (x % 115792089237316195423570985008687907853269984665640564039457584007913129639936) y) 58) 58 (0, 0)) | 10 => ∃ D, s 6 = .pointer (some ⟨D, 0, none⟩) ∧ w.heap.size + 1 + 1 + 1 ≤ D ∧ wx.heap[D]? = some (.cells (FQ (quoV (x % 115792089237316195423570985008687907853269984665640564039457584007913129639936) y) (remV (x % 115792089237316195423570985008687907853269984665640564039457584007913129639936) y) 24) 24 (0, 0)) | _ => True) (RT (w.heap.size + 1 + 1 + 1) (FQ (quoV (x % 115792089237316195423570985008687907853269984665640564039457584007913129639936) y) (remV (x % 115792089237316195423570985008687907853269984665640564039457584007913129639936) y))) (fun i => match i with | 0 => [8] | 1 => [9] | 2 => [10] | 3 => [11] | 4 => [7] | 5 => [12] | 6 => [13] | 7 => [5] | 8 => [6] | 9 => [5] | 10 => [6] | _ => []) (fun i => i) (by kernel_rfl) (by kernel_rfl) ⟨by go_grown, (heap3 _ _ _ _).1, (heap3 _ _ _ _).2.1, (heap3 _ _ _ _).2.2⟩ ?_ ?_ ?_ ?_
  · intro i s s' wx he hp
    match i, he, hp with
    | 0, he, hp => exact (he 8 (by simp)).symm.trans hp
    | 1, he, hp => exact (he 9 (by simp)).symm.trans hp
    | 2, he, hp => exact (he 10 (by simp)).symm.trans hp
    | 3, he, hp => exact (he 11 (by simp)).symm.trans hp
    | 4, he, hp => exact (he 7 (by simp)).symm.trans hp
    | 5, he, hp => exact (he 12 (by simp)).symm.trans hp
    | 6, he, hp => exact (he 13 (by simp)).symm.trans hp
    | 7, he, hp => obtain ⟨D, h1, h2⟩ := hp; exact ⟨D, (he 5 (by simp)).symm.trans h1, h2⟩
    | 8, he, hp => obtain ⟨D, h1, h2⟩ := hp; exact ⟨D, (he 6 (by simp)).symm.trans h1, h2⟩
    | 9, he, hp => obtain ⟨D, h1, h2⟩ := hp; exact ⟨D, (he 5 (by simp)).symm.trans h1, h2⟩
    | 10, he, hp => obtain ⟨D, h1, h2⟩ := hp; exact ⟨D, (he 6 (by simp)).symm.trans h1, h2⟩
    | _ + 11, _, _ => trivial
  · intro i s wa wb hR hp
    match i, hp with
    | 0, hp => exact hp
    | 1, hp => exact hp
    | 2, hp => exact hp
    | 3, hp => exact hp
    | 4, hp => exact hp
    | 5, hp => exact hp
    | 6, hp => exact hp
    | 7, hp => obtain ⟨D, h1, h2, cs, h3, h4⟩ := hp; obtain ⟨cs', h5, h6⟩ := hR.shape _ _ _ _ h3; exact ⟨D, h1, h2, cs', h5, h6.trans h4⟩
    | 8, hp => obtain ⟨D, h1, h2, cs, h3, h4⟩ := hp; obtain ⟨cs', h5, h6⟩ := hR.shape _ _ _ _ h3; exact ⟨D, h1, h2, cs', h5, h6.trans h4⟩
    | 9, hp => obtain ⟨D, h1, h2, h3⟩ := hp; exact ⟨D, h1, h2, hR.keep _ _ _ h3⟩
    | 10, hp => obtain ⟨D, h1, h2, h3⟩ := hp; exact ⟨D, h1, h2, hR.keep _ _ _ h3⟩
    | _ + 11, _ => trivial
  · refine ⟨?_, ?_, ?_, ?_, ?_, ?_, ?_, ?_, ?_, ?_, ?_, trivial⟩
    · intro a wx hC hsz hK
      have h0 : a.tmps.getD 2 undef = .pointer (some ⟨w.heap.size, 0, none⟩) := hK.1 2 (by kernel_rfl)
      exact tt_load 24 (.tmp 2) (.pointer (some ⟨w.heap.size, 0, none⟩)) (wv x) rfl (by kernel_rfl) h0 (load_pw hC.r0) hC (slots_put _ _ _ (by rw [hsz]; exact of_decide_eq_true (by kernel_rfl))) (RT.refl _ _ _)
    · intro a wx hC hsz hK
      have h0 : a.tmps.getD 8 undef = wv x := hK.2 ⟨0, .data⟩ (by simp) rfl _ rfl
      refine tt_call 75 #[a.tmps.getD 8 undef, .slice none 0 0] (by kernel_rfl) (by kernel_rfl) ?_
      rw [h0]
      exact ((fun wx => widen_any x wx) wx).mono fun e w' hh => ⟨_, hh.1, hC.below hh.2, slots_put _ _ _ (by rw [hsz]; exact of_decide_eq_true (by kernel_rfl)), RT.of hC.high hh.2⟩
    · intro a wx hC hsz hK
      have h0 : a.tmps.getD 3 undef = .pointer (some ⟨w.heap.size + 1, 0, none⟩) := hK.1 3 (by kernel_rfl)
      exact tt_load 24 (.tmp 3) (.pointer (some ⟨w.heap.size + 1, 0, none⟩)) (wv y) rfl (by kernel_rfl) h0 (load_pw hC.r1) hC (slots_put _ _ _ (by rw [hsz]; exact of_decide_eq_true (by kernel_rfl))) (RT.refl _ _ _)
    · intro a wx hC hsz hK
      have h0 : a.tmps.getD 9 undef = dv (x % 115792089237316195423570985008687907853269984665640564039457584007913129639936) := hK.2 ⟨1, .data⟩ (by simp) rfl _ rfl
      have h1 : a.tmps.getD 10 undef = wv y := hK.2 ⟨2, .data⟩ (by simp) rfl _ rfl
      refine tt_call 74 #[a.tmps.getD 9 undef, a.tmps.getD 10 undef] (by kernel_rfl) (by kernel_rfl) ?_
      rw [h0, h1]
      exact ((fun wx => divide_all (x % 115792089237316195423570985008687907853269984665640564039457584007913129639936) y (by omega) wx) wx).mono fun e w' hh => ⟨_, hh.1, hC.below hh.2, slots_put _ _ _ (by rw [hsz]; exact of_decide_eq_true (by kernel_rfl)), RT.of hC.high hh.2⟩
    · intro a wx hC hsz hK
      have h0 : a.tmps.getD 11 undef = .tuple #[dv (quoV (x % 115792089237316195423570985008687907853269984665640564039457584007913129639936) y), wv (remV (x % 115792089237316195423570985008687907853269984665640564039457584007913129639936) y)] := hK.2 ⟨3, .data⟩ (by simp) rfl _ rfl
      exact tt_val (.tuple #[dv (quoV (x % 115792089237316195423570985008687907853269984665640564039457584007913129639936) y), wv (remV (x % 115792089237316195423570985008687907853269984665640564039457584007913129639936) y)]) (by kernel_rfl) (by rw [← h0]; kernel_rfl) hC (slots_put _ _ _ (by rw [hsz]; exact of_decide_eq_true (by kernel_rfl))) (RT.refl _ _ _)
    · intro a wx hC hsz hK
      have h0 : a.tmps.getD 7 undef = .tuple #[dv (quoV (x % 115792089237316195423570985008687907853269984665640564039457584007913129639936) y), wv (remV (x % 115792089237316195423570985008687907853269984665640564039457584007913129639936) y)] := hK.2 ⟨4, .data⟩ (by simp) rfl _ rfl
      refine tt_v (Instr.extract (a.tmps.getD 7 undef) 0) (dv (quoV (x % 115792089237316195423570985008687907853269984665640564039457584007913129639936) y)) (by kernel_rfl) rfl ?_ hC (slots_put _ _ _ (by rw [hsz]; exact of_decide_eq_true (by kernel_rfl))) (RT.refl _ _ _)
      rw [h0]; kernel_rfl
    · intro a wx hC hsz hK
      have h0 : a.tmps.getD 7 undef = .tuple #[dv (quoV (x % 115792089237316195423570985008687907853269984665640564039457584007913129639936) y), wv (remV (x % 115792089237316195423570985008687907853269984665640564039457584007913129639936) y)] := hK.2 ⟨4, .data⟩ (by simp) rfl _ rfl
      refine tt_v (Instr.extract (a.tmps.getD 7 undef) 1) (wv (remV (x % 115792089237316195423570985008687907853269984665640564039457584007913129639936) y)) (by kernel_rfl) rfl ?_ hC (slots_put _ _ _ (by rw [hsz]; exact of_decide_eq_true (by kernel_rfl))) (RT.refl _ _ _)
      rw [h0]; kernel_rfl
    · intro a wx hC hsz hK
      exact tt_new (.pointer (some ⟨wx.heap.size, 0, none⟩)) (by kernel_rfl) (by kernel_rfl) (hC.below ((Below.refl _ _).alloc (Nat.le_refl _) _)) ⟨_, slots_put _ _ _ (by rw [hsz]; exact of_decide_eq_true (by kernel_rfl)), hC.high, #[.int .u64 0, .int .u64 0, .int .u64 0, .int .u64 0, .int .u64 0, .int .u64 0, .int .u64 0, .int .u64 0], heap_alloc_new _ _, rfl⟩ (RT.of hC.high ((Below.refl _ _).alloc (Nat.le_refl _) _))
    · intro a wx hC hsz hK
      exact tt_new (.pointer (some ⟨wx.heap.size, 0, none⟩)) (by kernel_rfl) (by kernel_rfl) (hC.below ((Below.refl _ _).alloc (Nat.le_refl _) _)) ⟨_, slots_put _ _ _ (by rw [hsz]; exact of_decide_eq_true (by kernel_rfl)), hC.high, #[.int .u64 0, .int .u64 0, .int .u64 0, .int .u64 0], heap_alloc_new _ _, rfl⟩ (RT.of hC.high ((Below.refl _ _).alloc (Nat.le_refl _) _))
    · intro a wx hC hsz hK
      obtain ⟨D, h1, h2, cs, h3, h4⟩ := hK.2 ⟨7, .data⟩ (by simp) rfl _ rfl
      have h0 : a.tmps.getD 12 undef = dv (quoV (x % 115792089237316195423570985008687907853269984665640564039457584007913129639936) y) := hK.2 ⟨5, .data⟩ (by simp) rfl _ rfl
      exact tt_store (by kernel_rfl) rfl (run_store 58 (.tmp 5) (.tmp 12) _ _ rfl h1 h0 (store_dw h3 h4)) (hC.rowed h2) ⟨D, h1, h2, setRow_heap _ _ _ _ _ _ h3⟩ (RT.row h2 h3 h4)
    · intro a wx hC hsz hK
      obtain ⟨D, h1, h2, cs, h3, h4⟩ := hK.2 ⟨8, .data⟩ (by simp) rfl _ rfl
      have h0 : a.tmps.getD 13 undef = wv (remV (x % 115792089237316195423570985008687907853269984665640564039457584007913129639936) y) := hK.2 ⟨6, .data⟩ (by simp) rfl _ rfl
      exact tt_store (by kernel_rfl) rfl (run_store 24 (.tmp 6) (.tmp 13) _ _ rfl h1 h0 (store_qw h3 h4)) (hC.rowed h2) ⟨D, h1, h2, setRow_heap _ _ _ _ _ _ h3⟩ (RT.row h2 h3 h4)
  · intro f wx hC hf
    have s8 := hf 0 _ rfl
    have s9 := hf 1 _ rfl
    have s10 := hf 2 _ rfl
    have s11 := hf 3 _ rfl
    have s7 := hf 4 _ rfl
    have s12 := hf 5 _ rfl
    have s13 := hf 6 _ rfl
    obtain ⟨D5, s5, g5, r5⟩ := hf 9 _ rfl
    obtain ⟨D6, s6, g6, r6⟩ := hf 10 _ rfl
    clear hf
    generalize hA : putAll _ _ _ = A at *
    have hsz : A.tmps.size = 15 := by rw [← hA, putAll_size]; rfl
    have t0 : A.tmps.getD 0 undef = .agg (pw x) := by subst hA; kernel_rfl
    have t1 : A.tmps.getD 1 undef = .agg (pw y) := by subst hA; kernel_rfl
    have t2 : A.tmps.getD 2 undef = .pointer (some ⟨w.heap.size, 0, none⟩) := by subst hA; kernel_rfl
    have t3 : A.tmps.getD 3 undef = .pointer (some ⟨w.heap.size + 1, 0, none⟩) := by subst hA; kernel_rfl
    have t4 : A.tmps.getD 4 undef = .pointer (some ⟨w.heap.size + 1 + 1, 0, none⟩) := by subst hA; kernel_rfl
    have t14 : A.tmps.getD 14 undef = undef := by subst hA; kernel_rfl
    have hd : A.defers = [] := by subst hA; kernel_rfl
    clear hA
    obtain ⟨tm, df⟩ := A
    simp only [slots] at *
    have hL := arr_lit tm
    rw [hsz] at hL
    simp only [List.range, List.range.loop, List.map] at hL
    rw [t0, t1, t2, t3, t4, s5, s6, s7, s8, s9, s10, s11, s12, s13, t14] at hL
    subst hL hd
    clear t0 t1 t2 t3 t4 s5 s6 s7 s8 s9 s10 s11 s12 s13 t14 hsz
    have hr6 : wx.heap[D6]? = some (.cells (pw (remV (x % 115792089237316195423570985008687907853269984665640564039457584007913129639936) y)) 24 (0, 0)) := r6
    clear r5 r6
    go_wp2_with (first | (refine wpList_load_row rfl 24 _ rfl D6 rfl 24 (pw (remV (x % 115792089237316195423570985008687907853269984665640564039457584007913129639936) y)) (0, 0) _ hr6 Tryd.underlying24 rfl infoWord ?_) | (refine wpList_store_row rfl 24 _ _ rfl (w.heap.size + 1 + 1) (pw (remV (x % 115792089237316195423570985008687907853269984665640564039457584007913129639936) y)) rfl rfl 24 #[.int .u64 0, .int .u64 0, .int .u64 0, .int .u64 0] hC.r2 infoWord rfl (pw_one _) ?_))
    (try simp only [Exit.inBlock, Exit.then])
    exact bodyPost_ret (v := .agg (pw (remV (x % 115792089237316195423570985008687907853269984665640564039457584007913129639936) y))) (results_cell_row (p := 4) rfl _ _ (w.heap.size + 1 + 1) 24 _ (0, 0) _ rfl (setRow_heap _ _ _ _ _ _ hC.r2) Tryd.underlying24 rfl infoWord) rfl ⟨rfl, below_setRow hC.old (by omega) _⟩
end Go.Proofs.YthfadinocadhaaaDoor
namespace Go.Proofs.YthfadinocadhaaaDoor
open Go.RowKit

theorem big_nought {y n : Nat} (hy : y < 115792089237316195423570985008687907853269984665640564039457584007913129639936) (hn : 256 ≤ n) : y / 2 ^ n = 0 := by
  refine Nat.div_eq_of_lt (Nat.lt_of_lt_of_le hy ?_)
  rw [show 115792089237316195423570985008687907853269984665640564039457584007913129639936 = 2 ^ 256 by rfl]
  exact Nat.pow_le_pow_right (by omega) hn
theorem min_div {y n : Nat} (hy : y < 115792089237316195423570985008687907853269984665640564039457584007913129639936) : y / 2 ^ min n 256 = y / 2 ^ n := by
  by_cases h : n ≤ 256
  · rw [Nat.min_eq_left h]
  · rw [Nat.min_eq_right (by omega), big_nought hy (Nat.le_refl _), big_nought hy (by omega)]
theorem min_mul (x n : Nat) : wv (x * 2 ^ min n 256) = wv (x * 2 ^ n) := by
  by_cases h : n ≤ 256
  · rw [Nat.min_eq_left h]
  · rw [Nat.min_eq_right (by omega)]
    apply wv_congr
    obtain ⟨m, rfl⟩ : ∃ m, n = 256 + m := ⟨n - 256, by omega⟩
    rw [Nat.pow_add, show (2 : Nat) ^ 256 = 115792089237316195423570985008687907853269984665640564039457584007913129639936 by rfl, Nat.mul_mod_left, ← Nat.mul_assoc, Nat.mul_right_comm, Nat.mul_mod_left]
theorem shl_n (n x : Nat) (hn : n < 115792089237316195423570985008687907853269984665640564039457584007913129639936) (w : World) : Calls Tryd.prog 37 #[wv n, wv x] w fun e w' => e = .returned (wv (x * 2 ^ n)) ∧ Below w.heap.size w w' := by
  have h := shl_any n x w
  rwa [Nat.mod_eq_of_lt hn, min_mul] at h
theorem shr_n (n x : Nat) (hn : n < 115792089237316195423570985008687907853269984665640564039457584007913129639936) (w : World) : Calls Tryd.prog 39 #[wv n, wv x] w fun e w' => e = .returned (wv (x % 115792089237316195423570985008687907853269984665640564039457584007913129639936 / 2 ^ n)) ∧ Below w.heap.size w w' := by
  have h := shr_any n x w
  rwa [Nat.mod_eq_of_lt hn, min_div (Nat.mod_lt _ (by omega))] at h
theorem sarN_min (n y : Nat) (hy : y < 115792089237316195423570985008687907853269984665640564039457584007913129639936) : sarN (min n 256) y = sarN n y := by
  unfold sarN
  rw [min_div hy, min_div (y := 115792089237316195423570985008687907853269984665640564039457584007913129639935 - y) (by omega)]
theorem sar_n (n x : Nat) (hn : n < 115792089237316195423570985008687907853269984665640564039457584007913129639936) (w : World) : Calls Tryd.prog 41 #[wv n, wv x] w fun e w' => e = .returned (wv (sarN n (x % 115792089237316195423570985008687907853269984665640564039457584007913129639936))) ∧ Below w.heap.size w w' := by
  have h := sar_any n x w
  rw [Nat.mod_eq_of_lt hn] at h
  rw [← sarN_min n _ (Nat.mod_lt _ (by omega))]
  exact h
theorem sarN_le (n y : Nat) (hy : y < 115792089237316195423570985008687907853269984665640564039457584007913129639936) : sarN n y < 115792089237316195423570985008687907853269984665640564039457584007913129639936 := by
  unfold sarN
  split
  · exact Nat.lt_of_le_of_lt (Nat.sub_le _ _) (by omega)
  · exact Nat.lt_of_le_of_lt (Nat.div_le_self _ _) hy
theorem sarN_two (j k y : Nat) (hy : y < 115792089237316195423570985008687907853269984665640564039457584007913129639936) : sarN k (sarN j y) = sarN (j + k) y := by
  unfold sarN
  by_cases h : 57896044618658097711785492504343953926634992332820282019728792003956564819968 ≤ y
  · rw [if_pos h, if_pos h]
    have h1 : (115792089237316195423570985008687907853269984665640564039457584007913129639935 - y) / 2 ^ j ≤ 115792089237316195423570985008687907853269984665640564039457584007913129639935 - y := Nat.div_le_self _ _
    rw [Nat.pow_add, ← Nat.div_div_eq_div_mul]
    generalize (115792089237316195423570985008687907853269984665640564039457584007913129639935 - y) / 2 ^ j = d at *
    rw [if_pos (by omega), show 115792089237316195423570985008687907853269984665640564039457584007913129639935 - (115792089237316195423570985008687907853269984665640564039457584007913129639935 - d) = d by omega]
  · rw [if_neg h, if_neg h]
    have h1 : y / 2 ^ j ≤ y := Nat.div_le_self _ _
    rw [if_neg (by omega), Nat.div_div_eq_div_mul, ← Nat.pow_add]
theorem of_wv (n : Nat) (hn : n < 18446744073709551616) (w : World) : Calls Tryd.prog 57 #[.int .u64 n] w fun e w' => e = .returned (.agg (pw n)) ∧ Below w.heap.size w w' := by
  have h := of_walk n w
  rw [← wv_one hn, wv_pw] at h
  exact h
theorem quo_pow (x j : Nat) (hj : j < 256) : wv (quoV (x % 115792089237316195423570985008687907853269984665640564039457584007913129639936) (2 ^ j)) = wv (x % 115792089237316195423570985008687907853269984665640564039457584007913129639936 / 2 ^ j) := by
  have h1 : 2 ^ j < 115792089237316195423570985008687907853269984665640564039457584007913129639936 := by
    rw [show 115792089237316195423570985008687907853269984665640564039457584007913129639936 = 2 ^ 256 by rfl]; exact Nat.pow_lt_pow_right (by omega) hj
  have h2 := Nat.two_pow_pos j
  unfold quoV
  rw [Nat.mod_eq_of_lt h1, if_neg (by omega)]

/-- The worlds of the last statement. -/
structure CS (w : World) (D x j k : Nat) (wx : World) : Prop where
  old : Below w.heap.size w wx
  r0 : wx.heap[w.heap.size]? = some (.cells (pw x) 24 (0, 0))
  r1 : wx.heap[D]? = some (.cells (pw j) 24 (0, 0))
  r2 : wx.heap[D + 1]? = some (.cells (pw k) 24 (0, 0))
  r3 : wx.heap[D + 1 + 1]? = some (.cells (pw (j + k)) 24 (0, 0))
theorem CS.below {w wx w' : World} {D x j k : Nat} (h : CS w D x j k wx) (hb : Below wx.heap.size wx w') : CS w D x j k w' :=
  ⟨h.old.trans (hb.mono h.old.size), (hb.block _ (Array.getElem?_eq_some_iff.1 h.r0).1).trans h.r0, (hb.block _ (Array.getElem?_eq_some_iff.1 h.r1).1).trans h.r1, (hb.block _ (Array.getElem?_eq_some_iff.1 h.r2).1).trans h.r2, (hb.block _ (Array.getElem?_eq_some_iff.1 h.r3).1).trans h.r3⟩
theorem CS.drew {w wx : World} {D x j k : Nat} (h : CS w D x j k wx) : CS w D x j k wx.drew := ⟨h.old.drew, h.r0, h.r1, h.r2, h.r3⟩
theorem CS.call {w : World} {D x j k : Nat} {f : FuncId} {args : Array Value} {v : Value} (h : ∀ w, Calls Tryd.prog f args w fun e w' => e = .returned v ∧ Below w.heap.size w w') : ∀ wx, CS w D x j k wx → Calls Tryd.prog f args wx fun e w' => e = .returned v ∧ CS w D x j k w' :=
  fun wx hC => (h wx).mono fun _ _ h => ⟨h.1, hC.below h.2⟩

set_option maxRecDepth 100000 in
set_option maxHeartbeats 4000000 in
theorem shifts_in (x j k : Nat) (hj : j < 256) (hk : k < 256) (w : World) : Calls Tryd.prog 11 #[.agg (pw x), .int .u8 (j : Nat), .int .u8 (k : Nat)] w fun e w' => e = .returned (.bool true) ∧ Below w.heap.size w w' := by
  have O1 := Lib.hid (fun w => of_wv j (by omega) w)
  have O2 := Lib.hid (fun w => of_wv k (by omega) w)
  have O3 := Lib.hid (fun w => of_wv (j + k) (by omega) w)
  have j0 : (0 : Int) ≤ j := by omega
  have j1 : (j : Int) ≤ 255 := by omega
  have k0 : (0 : Int) ≤ k := by omega
  have k1 : (k : Int) ≤ 255 := by omega
  have ej : IntKind.u64.wrap (j : Int) = (j : Int) := by rw [IntKind.wrap_u64]; omega
  have ek : IntKind.u64.wrap (k : Int) = (k : Int) := by rw [IntKind.wrap_u64]; omega
  have es : IntKind.u64.wrap ((j : Int) + (k : Int)) = (j : Int) + (k : Int) := by rw [IntKind.wrap_u64]; omega
  have ec : (j : Int) + (k : Int) = ((j + k : Nat) : Int) := by simp
  have EC := Lib.hid ec; clear ec
  have HJ := Lib.hid hj; clear hj
  have HK := Lib.hid hk; clear hk
  go_enter Tryd.func11, Tryd.ntmps11
  go_wp2_with fail
  refine (O1.out _).mono ?_
  rintro e w1 ⟨rfl, b1⟩
  have B1 := Lib.hid b1; clear b1
  go_wp2_with fail
  refine (O2.out _).mono ?_
  rintro e w2 ⟨rfl, b2⟩
  have B2 := Lib.hid b2; clear b2
  go_wp2_with fail
  rw [EC.out]
  refine (O3.out _).mono ?_
  rintro e w3 ⟨rfl, b3⟩
  have hx0 : w3.heap[w.heap.size]? = some (.cells (pw x) 24 (0, 0)) := (b3.block _ (Nat.lt_of_lt_of_le (by simp) (Nat.le_trans B1.out.size B2.out.size))).trans ((B2.out.block _ (Nat.lt_of_lt_of_le (by simp) B1.out.size)).trans ((B1.out.block _ (by simp)).trans (heap_alloc_new _ _)))
  have hB3 : Below w.heap.size w w3 := (Below.trans (by go_grown) (B1.out.mono (by simp))).trans ((B2.out.mono (Nat.le_trans (by simp) B1.out.size)).trans (b3.mono (Nat.le_trans (by simp) (Nat.le_trans B1.out.size B2.out.size))))
  have hlt : w.heap.size < w3.heap.size := (Array.getElem?_eq_some_iff.1 hx0).1
  have HX0 := Lib.hid hx0; clear hx0
  have HB3 := Lib.hid hB3; clear hB3 b3
  clear B1 B2
  have q1 := (heap3 w3 (.cells #[.int .u64 0, .int .u64 0, .int .u64 0, .int .u64 0] 24) (.cells #[.int .u64 0, .int .u64 0, .int .u64 0, .int .u64 0] 24) (.cells #[.int .u64 0, .int .u64 0, .int .u64 0, .int .u64 0] 24)).1
  have q2 := (heap3 w3 (.cells #[.int .u64 0, .int .u64 0, .int .u64 0, .int .u64 0] 24) (.cells #[.int .u64 0, .int .u64 0, .int .u64 0, .int .u64 0] 24) (.cells #[.int .u64 0, .int .u64 0, .int .u64 0, .int .u64 0] 24)).2.1
  have q3 := (heap3 w3 (.cells #[.int .u64 0, .int .u64 0, .int .u64 0, .int .u64 0] 24) (.cells #[.int .u64 0, .int .u64 0, .int .u64 0, .int .u64 0] 24) (.cells #[.int .u64 0, .int .u64 0, .int .u64 0, .int .u64 0] 24)).2.2
  have Q2 := Lib.hid ((setRow_other (((w3.alloc (.cells #[.int .u64 0, .int .u64 0, .int .u64 0, .int .u64 0] 24)).alloc (.cells #[.int .u64 0, .int .u64 0, .int .u64 0, .int .u64 0] 24)).alloc (.cells #[.int .u64 0, .int .u64 0, .int .u64 0, .int .u64 0] 24)) w3.heap.size (w3.heap.size + 1) (pw j) (by omega)).trans q2)
  have Q3 := Lib.hid ((setRow_other ((((w3.alloc (.cells #[.int .u64 0, .int .u64 0, .int .u64 0, .int .u64 0] 24)).alloc (.cells #[.int .u64 0, .int .u64 0, .int .u64 0, .int .u64 0] 24)).alloc (.cells #[.int .u64 0, .int .u64 0, .int .u64 0, .int .u64 0] 24)).setRow w3.heap.size (pw j)) (w3.heap.size + 1) (w3.heap.size + 1 + 1) (pw k) (by omega)).trans ((setRow_other (((w3.alloc (.cells #[.int .u64 0, .int .u64 0, .int .u64 0, .int .u64 0] 24)).alloc (.cells #[.int .u64 0, .int .u64 0, .int .u64 0, .int .u64 0] 24)).alloc (.cells #[.int .u64 0, .int .u64 0, .int .u64 0, .int .u64 0] 24)) w3.heap.size (w3.heap.size + 1 + 1) (pw j) (by omega)).trans q3))
  have Q1 := Lib.hid q1
  clear q1 q2 q3
  go_wp2_with (first | (refine wpList_store_row rfl 24 _ _ rfl w3.heap.size (pw j) rfl rfl 24 #[.int .u64 0, .int .u64 0, .int .u64 0, .int .u64 0] Q1.out infoWord rfl (pw_one _) ?_) | (refine wpList_store_row rfl 24 _ _ rfl (w3.heap.size + 1) (pw k) rfl rfl 24 #[.int .u64 0, .int .u64 0, .int .u64 0, .int .u64 0] Q2.out infoWord rfl (pw_one _) ?_) | (refine wpList_store_row rfl 24 _ _ rfl (w3.heap.size + 1 + 1) (pw (j + k)) rfl rfl 24 #[.int .u64 0, .int .u64 0, .int .u64 0, .int .u64 0] Q3.out infoWord rfl (pw_one _) ?_))
  have hcl : CS w w3.heap.size x j k (((((w3.alloc (.cells #[.int .u64 0, .int .u64 0, .int .u64 0, .int .u64 0] 24)).alloc (.cells #[.int .u64 0, .int .u64 0, .int .u64 0, .int .u64 0] 24)).alloc (.cells #[.int .u64 0, .int .u64 0, .int .u64 0, .int .u64 0] 24)).setRow w3.heap.size (pw j)).setRow (w3.heap.size + 1) (pw k) |>.setRow (w3.heap.size + 1 + 1) (pw (j + k))) := by
    refine ⟨below_setRow (below_setRow (below_setRow (HB3.out.trans (by go_grown)) (by omega) _) (by omega) _) (by omega) _, ?_, ?_, ?_, ?_⟩
    · refine (setRow_other _ _ _ _ (by omega)).trans ((setRow_other _ _ _ _ (by omega)).trans ((setRow_other _ _ _ _ (by omega)).trans ?_))
      exact (heap_alloc_old _ _ (by simp; omega)).trans ((heap_alloc_old _ _ (by simp; omega)).trans ((heap_alloc_old _ _ (by omega)).trans HX0.out))
    · exact (setRow_other _ _ _ _ (by omega)).trans ((setRow_other _ _ _ _ (by omega)).trans (setRow_heap _ _ _ _ _ _ Q1.out))
    · exact (setRow_other _ _ _ _ (by omega)).trans (setRow_heap _ _ _ _ _ _ Q2.out)
    · exact setRow_heap _ _ _ _ _ _ Q3.out
  obtain ⟨D, hD⟩ : ∃ D, w3.heap.size = D := ⟨_, rfl⟩
  rw [hD] at hcl ⊢
  have L0 := Lib.hid (fun wx (hC : (CS w D x j k) wx) => load_pw hC.r0)
  have L1 := Lib.hid (fun wx (hC : (CS w D x j k) wx) => load_pw hC.r1)
  have L2 := Lib.hid (fun wx (hC : (CS w D x j k) wx) => load_pw hC.r2)
  have L3 := Lib.hid (fun wx (hC : (CS w D x j k) wx) => load_pw hC.r3)
  have K1 := Lib.hid (CS.call (w := w) (D := D) (x := x) (j := j) (k := k) (args := #[wv j, wv x]) (v := wv (x * 2 ^ j)) (fun w => shl_n j x (by have := HJ.out; omega) w))
  have K2 := Lib.hid (CS.call (w := w) (D := D) (x := x) (j := j) (k := k) (args := #[wv k, wv (x * 2 ^ j)]) (v := wv (x * 2 ^ (j + k))) (fun w => by have h := shl_n k (x * 2 ^ j) (by have := HK.out; omega) w; rwa [Nat.mul_assoc, ← Nat.pow_add] at h))
  have K3 := Lib.hid (CS.call (w := w) (D := D) (x := x) (j := j) (k := k) (args := #[wv (j + k), wv x]) (v := wv (x * 2 ^ (j + k))) (fun w => shl_n (j + k) x (by have := HJ.out; have := HK.out; omega) w))
  have K4 := Lib.hid (CS.call (w := w) (D := D) (x := x) (j := j) (k := k) (args := #[wv j, wv x]) (v := wv (x % 115792089237316195423570985008687907853269984665640564039457584007913129639936 / 2 ^ j)) (fun w => shr_n j x (by have := HJ.out; omega) w))
  have K5 := Lib.hid (CS.call (w := w) (D := D) (x := x) (j := j) (k := k) (args := #[wv k, wv (x % 115792089237316195423570985008687907853269984665640564039457584007913129639936 / 2 ^ j)]) (v := wv (x % 115792089237316195423570985008687907853269984665640564039457584007913129639936 / 2 ^ (j + k))) (fun w => by have h := shr_n k (x % 115792089237316195423570985008687907853269984665640564039457584007913129639936 / 2 ^ j) (by have := HK.out; omega) w; rwa [Nat.mod_eq_of_lt (Nat.lt_of_le_of_lt (Nat.div_le_self _ _) (Nat.mod_lt _ (by omega))), Nat.div_div_eq_div_mul, ← Nat.pow_add] at h))
  have K6 := Lib.hid (CS.call (w := w) (D := D) (x := x) (j := j) (k := k) (args := #[wv (j + k), wv x]) (v := wv (x % 115792089237316195423570985008687907853269984665640564039457584007913129639936 / 2 ^ (j + k))) (fun w => shr_n (j + k) x (by have := HJ.out; have := HK.out; omega) w))
  have K7 := Lib.hid (CS.call (w := w) (D := D) (x := x) (j := j) (k := k) (args := #[wv j, wv x]) (v := wv (sarN j (x % 115792089237316195423570985008687907853269984665640564039457584007913129639936))) (fun w => sar_n j x (by have := HJ.out; omega) w))
  have K8 := Lib.hid (CS.call (w := w) (D := D) (x := x) (j := j) (k := k) (args := #[wv k, wv (sarN j (x % 115792089237316195423570985008687907853269984665640564039457584007913129639936))]) (v := wv (sarN (j + k) (x % 115792089237316195423570985008687907853269984665640564039457584007913129639936))) (fun w => by have h := sar_n k (sarN j (x % 115792089237316195423570985008687907853269984665640564039457584007913129639936)) (by have := HK.out; omega) w; rwa [Nat.mod_eq_of_lt (sarN_le _ _ (Nat.mod_lt _ (by omega))), sarN_two _ _ _ (Nat.mod_lt _ (by omega))] at h))
  have K9 := Lib.hid (CS.call (w := w) (D := D) (x := x) (j := j) (k := k) (args := #[wv (j + k), wv x]) (v := wv (sarN (j + k) (x % 115792089237316195423570985008687907853269984665640564039457584007913129639936))) (fun w => sar_n (j + k) x (by have := HJ.out; have := HK.out; omega) w))
  have K11 := Lib.hid (CS.call (w := w) (D := D) (x := x) (j := j) (k := k) (args := #[.int .u64 2]) (v := wv 2) (fun w => by have h := of_wv 2 (by omega) w; rwa [← wv_pw] at h))
  have K12 := Lib.hid (CS.call (w := w) (D := D) (x := x) (j := j) (k := k) (args := #[wv 2, wv j]) (v := wv (2 ^ j)) (fun w => by have h := exp_any 2 j w; rwa [Nat.mod_eq_of_lt (by have := HJ.out; omega)] at h))
  have K13 := Lib.hid (CS.call (w := w) (D := D) (x := x) (j := j) (k := k) (args := #[wv x, wv (2 ^ j)]) (v := wv (x * 2 ^ j)) (fun w => mul_any x (2 ^ j) w))
  have K17 := Lib.hid (CS.call (w := w) (D := D) (x := x) (j := j) (k := k) (args := #[wv x, wv (2 ^ j)]) (v := wv (x % 115792089237316195423570985008687907853269984665640564039457584007913129639936 / 2 ^ j)) (fun w => by have h := div_any x (2 ^ j) w; rwa [quo_pow x j HJ.out] at h))
  have K18 := Lib.hid (CS.call (w := w) (D := D) (x := x) (j := j) (k := k) lives_any)
  refine wp_region_quiet (C := (CS w D x j k)) (by kernel_rfl) (by kernel_rfl) hcl.drew ?_
  with_reducible refine q_load 24 (.tmp 8) (.pointer (some ⟨D + 1, 0, none⟩)) (wv k) rfl (by kernel_rfl) (by kernel_rfl) L2.out ?_
  with_reducible refine q_load 24 (.tmp 7) (.pointer (some ⟨D, 0, none⟩)) (wv j) rfl (by kernel_rfl) (by kernel_rfl) L1.out ?_
  with_reducible refine q_load 24 (.tmp 3) (.pointer (some ⟨w.heap.size, 0, none⟩)) (wv x) rfl (by kernel_rfl) (by kernel_rfl) L0.out ?_
  with_reducible refine q_call 37 #[wv j, wv x] (wv (x * 2 ^ j)) (by kernel_rfl) (fun _ => by kernel_rfl) K1.out ?_
  with_reducible refine q_call 37 #[wv k, wv (x * 2 ^ j)] (wv (x * 2 ^ (j + k))) (by kernel_rfl) (fun _ => by kernel_rfl) K2.out ?_
  with_reducible refine q_load 24 (.tmp 9) (.pointer (some ⟨D + 1 + 1, 0, none⟩)) (wv (j + k)) rfl (by kernel_rfl) (by kernel_rfl) L3.out ?_
  with_reducible refine q_load 24 (.tmp 3) (.pointer (some ⟨w.heap.size, 0, none⟩)) (wv x) rfl (by kernel_rfl) (by kernel_rfl) L0.out ?_
  with_reducible refine q_call 37 #[wv (j + k), wv x] (wv (x * 2 ^ (j + k))) (by kernel_rfl) (fun _ => by kernel_rfl) K3.out ?_
  with_reducible refine q_bin .eql 24 _ _ 24 (wv (x * 2 ^ (j + k))) (wv (x * 2 ^ (j + k))) (.bool true) rfl (by kernel_rfl) (by kernel_rfl) (by kernel_rfl) (eqg_any _ _ _) (eqb_any _) ?_
  with_reducible refine q_val (.bool true) (by kernel_rfl) (fun _ _ => by kernel_rfl) ?_
  with_reducible refine q_load 24 (.tmp 8) (.pointer (some ⟨D + 1, 0, none⟩)) (wv k) rfl (by kernel_rfl) (by kernel_rfl) L2.out ?_
  with_reducible refine q_load 24 (.tmp 7) (.pointer (some ⟨D, 0, none⟩)) (wv j) rfl (by kernel_rfl) (by kernel_rfl) L1.out ?_
  with_reducible refine q_load 24 (.tmp 3) (.pointer (some ⟨w.heap.size, 0, none⟩)) (wv x) rfl (by kernel_rfl) (by kernel_rfl) L0.out ?_
  with_reducible refine q_call 39 #[wv j, wv x] (wv (x % 115792089237316195423570985008687907853269984665640564039457584007913129639936 / 2 ^ j)) (by kernel_rfl) (fun _ => by kernel_rfl) K4.out ?_
  with_reducible refine q_call 39 #[wv k, wv (x % 115792089237316195423570985008687907853269984665640564039457584007913129639936 / 2 ^ j)] (wv (x % 115792089237316195423570985008687907853269984665640564039457584007913129639936 / 2 ^ (j + k))) (by kernel_rfl) (fun _ => by kernel_rfl) K5.out ?_
  with_reducible refine q_load 24 (.tmp 9) (.pointer (some ⟨D + 1 + 1, 0, none⟩)) (wv (j + k)) rfl (by kernel_rfl) (by kernel_rfl) L3.out ?_
  with_reducible refine q_load 24 (.tmp 3) (.pointer (some ⟨w.heap.size, 0, none⟩)) (wv x) rfl (by kernel_rfl) (by kernel_rfl) L0.out ?_
  with_reducible refine q_call 39 #[wv (j + k), wv x] (wv (x % 115792089237316195423570985008687907853269984665640564039457584007913129639936 / 2 ^ (j + k))) (by kernel_rfl) (fun _ => by kernel_rfl) K6.out ?_
  with_reducible refine q_bin .eql 24 _ _ 24 (wv (x % 115792089237316195423570985008687907853269984665640564039457584007913129639936 / 2 ^ (j + k))) (wv (x % 115792089237316195423570985008687907853269984665640564039457584007913129639936 / 2 ^ (j + k))) (.bool true) rfl (by kernel_rfl) (by kernel_rfl) (by kernel_rfl) (eqg_any _ _ _) (eqb_any _) ?_
  with_reducible refine q_val (.bool true) (by kernel_rfl) (fun _ _ => by kernel_rfl) ?_
  with_reducible refine q_val (.bool true) (by kernel_rfl) (fun _ _ => by kernel_rfl) ?_
  with_reducible refine q_load 24 (.tmp 8) (.pointer (some ⟨D + 1, 0, none⟩)) (wv k) rfl (by kernel_rfl) (by kernel_rfl) L2.out ?_
  with_reducible refine q_load 24 (.tmp 7) (.pointer (some ⟨D, 0, none⟩)) (wv j) rfl (by kernel_rfl) (by kernel_rfl) L1.out ?_
  with_reducible refine q_load 24 (.tmp 3) (.pointer (some ⟨w.heap.size, 0, none⟩)) (wv x) rfl (by kernel_rfl) (by kernel_rfl) L0.out ?_
  with_reducible refine q_call 41 #[wv j, wv x] (wv (sarN j (x % 115792089237316195423570985008687907853269984665640564039457584007913129639936))) (by kernel_rfl) (fun _ => by kernel_rfl) K7.out ?_
  with_reducible refine q_call 41 #[wv k, wv (sarN j (x % 115792089237316195423570985008687907853269984665640564039457584007913129639936))] (wv (sarN (j + k) (x % 115792089237316195423570985008687907853269984665640564039457584007913129639936))) (by kernel_rfl) (fun _ => by kernel_rfl) K8.out ?_
  with_reducible refine q_load 24 (.tmp 9) (.pointer (some ⟨D + 1 + 1, 0, none⟩)) (wv (j + k)) rfl (by kernel_rfl) (by kernel_rfl) L3.out ?_
  with_reducible refine q_load 24 (.tmp 3) (.pointer (some ⟨w.heap.size, 0, none⟩)) (wv x) rfl (by kernel_rfl) (by kernel_rfl) L0.out ?_
  with_reducible refine q_call 41 #[wv (j + k), wv x] (wv (sarN (j + k) (x % 115792089237316195423570985008687907853269984665640564039457584007913129639936))) (by kernel_rfl) (fun _ => by kernel_rfl) K9.out ?_
  with_reducible refine q_bin .eql 24 _ _ 24 (wv (sarN (j + k) (x % 115792089237316195423570985008687907853269984665640564039457584007913129639936))) (wv (sarN (j + k) (x % 115792089237316195423570985008687907853269984665640564039457584007913129639936))) (.bool true) rfl (by kernel_rfl) (by kernel_rfl) (by kernel_rfl) (eqg_any _ _ _) (eqb_any _) ?_
  with_reducible refine q_val (.bool true) (by kernel_rfl) (fun _ _ => by kernel_rfl) ?_
  with_reducible refine q_val (.bool true) (by kernel_rfl) (fun _ _ => by kernel_rfl) ?_
  with_reducible refine q_load 24 (.tmp 7) (.pointer (some ⟨D, 0, none⟩)) (wv j) rfl (by kernel_rfl) (by kernel_rfl) L1.out ?_
  with_reducible refine q_load 24 (.tmp 3) (.pointer (some ⟨w.heap.size, 0, none⟩)) (wv x) rfl (by kernel_rfl) (by kernel_rfl) L0.out ?_
  with_reducible refine q_call 37 #[wv j, wv x] (wv (x * 2 ^ j)) (by kernel_rfl) (fun _ => by kernel_rfl) K1.out ?_
  with_reducible refine q_load 24 (.tmp 3) (.pointer (some ⟨w.heap.size, 0, none⟩)) (wv x) rfl (by kernel_rfl) (by kernel_rfl) L0.out ?_
  with_reducible refine q_call 57 #[.int .u64 2] (wv 2) (by kernel_rfl) (fun _ => by kernel_rfl) K11.out ?_
  with_reducible refine q_load 24 (.tmp 7) (.pointer (some ⟨D, 0, none⟩)) (wv j) rfl (by kernel_rfl) (by kernel_rfl) L1.out ?_
  with_reducible refine q_call 20 #[wv 2, wv j] (wv (2 ^ j)) (by kernel_rfl) (fun _ => by kernel_rfl) K12.out ?_
  with_reducible refine q_call 17 #[wv x, wv (2 ^ j)] (wv (x * 2 ^ j)) (by kernel_rfl) (fun _ => by kernel_rfl) K13.out ?_
  with_reducible refine q_bin .eql 24 _ _ 24 (wv (x * 2 ^ j)) (wv (x * 2 ^ j)) (.bool true) rfl (by kernel_rfl) (by kernel_rfl) (by kernel_rfl) (eqg_any _ _ _) (eqb_any _) ?_
  with_reducible refine q_val (.bool true) (by kernel_rfl) (fun _ _ => by kernel_rfl) ?_
  with_reducible refine q_val (.bool true) (by kernel_rfl) (fun _ _ => by kernel_rfl) ?_
  with_reducible refine q_load 24 (.tmp 7) (.pointer (some ⟨D, 0, none⟩)) (wv j) rfl (by kernel_rfl) (by kernel_rfl) L1.out ?_
  with_reducible refine q_load 24 (.tmp 3) (.pointer (some ⟨w.heap.size, 0, none⟩)) (wv x) rfl (by kernel_rfl) (by kernel_rfl) L0.out ?_
  with_reducible refine q_call 39 #[wv j, wv x] (wv (x % 115792089237316195423570985008687907853269984665640564039457584007913129639936 / 2 ^ j)) (by kernel_rfl) (fun _ => by kernel_rfl) K4.out ?_
  with_reducible refine q_load 24 (.tmp 3) (.pointer (some ⟨w.heap.size, 0, none⟩)) (wv x) rfl (by kernel_rfl) (by kernel_rfl) L0.out ?_
  with_reducible refine q_call 57 #[.int .u64 2] (wv 2) (by kernel_rfl) (fun _ => by kernel_rfl) K11.out ?_
  with_reducible refine q_load 24 (.tmp 7) (.pointer (some ⟨D, 0, none⟩)) (wv j) rfl (by kernel_rfl) (by kernel_rfl) L1.out ?_
  with_reducible refine q_call 20 #[wv 2, wv j] (wv (2 ^ j)) (by kernel_rfl) (fun _ => by kernel_rfl) K12.out ?_
  with_reducible refine q_call 25 #[wv x, wv (2 ^ j)] (wv (x % 115792089237316195423570985008687907853269984665640564039457584007913129639936 / 2 ^ j)) (by kernel_rfl) (fun _ => by kernel_rfl) K17.out ?_
  with_reducible refine q_bin .eql 24 _ _ 24 (wv (x % 115792089237316195423570985008687907853269984665640564039457584007913129639936 / 2 ^ j)) (wv (x % 115792089237316195423570985008687907853269984665640564039457584007913129639936 / 2 ^ j)) (.bool true) rfl (by kernel_rfl) (by kernel_rfl) (by kernel_rfl) (eqg_any _ _ _) (eqb_any _) ?_
  with_reducible refine q_val (.bool true) (by kernel_rfl) (fun _ _ => by kernel_rfl) ?_
  with_reducible refine q_val (.bool true) (by kernel_rfl) (fun _ _ => by kernel_rfl) ?_
  with_reducible refine q_call 19 #[] (.bool true) (by kernel_rfl) (fun _ => by kernel_rfl) K18.out ?_
  with_reducible refine q_val (.bool true) (by kernel_rfl) (fun _ _ => by kernel_rfl) ?_
  with_reducible refine q_val (.bool true) (by kernel_rfl) (fun _ _ => by kernel_rfl) ?_
  with_reducible refine wpQuiet_nil ?_
  intro wx hC
  have hB := hC.old
  clear hC
  generalize hA : Act.put _ _ _ = A
  have h6 : A.tmps.getD 6 undef = Value.bool true := by subst hA; kernel_rfl
  have hd : A.defers = [] := by subst hA; kernel_rfl
  clear hA
  go_wp2
  (try simp only [Exit.inBlock, Exit.then])
  refine bodyPost_ret (v := .bool true) (by rw [results_tmp rfl _ _ _, h6]) hd ⟨rfl, hB⟩
theorem shifts_any (x j k : Nat) (w : World) : Calls Tryd.prog 11 #[wv x, .int .u8 ((j % 256 : Nat) : Int), .int .u8 ((k % 256 : Nat) : Int)] w fun e w' => e = .returned (.bool true) ∧ Below w.heap.size w w' := by
  rw [wv_pw]
  exact shifts_in x (j % 256) (k % 256) (Nat.mod_lt _ (by omega)) (Nat.mod_lt _ (by omega)) w
end Go.Proofs.YthfadinocadhaaaDoor
namespace Go.Proofs.YthfadinocadhaaaDoor.wordShifts
open Go.ChangeShapes Go.WideShapes Go.ChangeAt Go.RowKit

set_option maxRecDepth 100000 in
theorem contract (H : Type) (enc : TypeId × Value → H) (W : World) (base : Nat) (args : Array Value) (ds gs : List (DataW H)) (before : List MemPlace)
    (hval : ∀ (j : Nat) t v, Tryd.f11.params[j]? = some t → args[j]? = some v → Value.okWide Tryd.prog W .any base t v)
    (hW : DataW.Whole enc Tryd.prog Tryd.f11.params.toList Rows.wordShiftsSpec.vars false W args.toList ds gs before) :
    Calls Tryd.prog 11 args W fun e W' => ∃ v, e = .returned v ∧ Rows.wordShiftsSpec.post enc Tryd.prog Tryd.f11 false true false false W args v W' := by
  have hW' := hW
  obtain ⟨p, q, hA0, hV, rfl, hfz, hnd⟩ := hW
  have hA : DataW.TrodAll enc Tryd.prog W 0 (fun _ => true) true Tryd.f11.params.toList args.toList ds p := hA0
  rw [Tryd.params11] at hA hval
  obtain ⟨v0, vs0, d0, ds0, p0, q0, hargs, rfl, rfl, h0, r0⟩ := trodAll_cons hA
  obtain ⟨v1, vs1, d1, ds1, p1, q1, rfl, rfl, rfl, h1, r1⟩ := trodAll_cons r0
  obtain ⟨v2, vs2, d2, ds2, p2, q2, rfl, rfl, rfl, h2, r2⟩ := trodAll_cons r1
  obtain ⟨rfl, rfl, rfl⟩ := trodAll_nil r2
  obtain rfl : args = #[v0, v1, v2] := by cases args; simp_all
  obtain ⟨rfl, rfl⟩ := trodVars_none hV
  obtain ⟨x0, rfl⟩ := open_word (hval 0 24 v0 rfl rfl) h0
  obtain ⟨x1, rfl⟩ := open_byte (hval 1 5 v1 rfl rfl) h1
  obtain ⟨x2, rfl⟩ := open_byte (hval 2 5 v2 rfl rfl) h2
  clear hA0
  refine (shifts_any x0 x1 x2 W).mono fun e W' ⟨he, hb⟩ => ?_
  subst he
  refine ⟨_, rfl, _, _, _, [], p0 ++ (p1 ++ (p2 ++ [])), [], hW', trodAll_cons_mk (shut_bool Tryd.underlying4 _) trodAll_mk0, trodAll_cons_mk (Below.trod laidOutF (by kernel_rfl) (of_decide_eq_true (by kernel_rfl)) h0 hb (fun x hx => hW'.lt x (by simp [hx]))) (trodAll_cons_mk (Below.trod laidOutF (by kernel_rfl) (of_decide_eq_true (by kernel_rfl)) h1 hb (fun x hx => hW'.lt x (by simp [hx]))) (trodAll_cons_mk (Below.trod laidOutF (by kernel_rfl) (of_decide_eq_true (by kernel_rfl)) h2 hb (fun x hx => hW'.lt x (by simp [hx]))) trodAll_mk0)), rfl, hb.frame _, fun h => by cases h⟩

theorem laid_met (os : Os) : laidMet Tryd.prog Rows.wordShiftsRow.laid ((laidWorld os).forCall (fun _ _ => 0) ⟨#[], #[.agg #[.int .u64 0, .int .u64 0, .int .u64 0, .int .u64 0], .int .u8 0, .int .u8 0], []⟩).memory :=
  laidMet_of_run' 80 (by kernel_rfl) (by kernel_rfl)
theorem reads (os : Os) {H : Type} (enc : TypeId × Value → H) : ∃ places, DataW.whole enc Tryd.prog ((laidWorld os).forCall (fun _ _ => 0) ⟨#[], #[.agg #[.int .u64 0, .int .u64 0, .int .u64 0, .int .u64 0], .int .u8 0, .int .u8 0], []⟩).memory Tryd.f11.params.toList Rows.wordShiftsSpec.vars false (#[.agg #[.int .u64 0, .int .u64 0, .int .u64 0, .int .u64 0], .int .u8 0, .int .u8 0] : Array Value).toList 80 = some ([.agg [.lit (.int .u64 0), .lit (.int .u64 0), .lit (.int .u64 0), .lit (.int .u64 0)], .lit (.int .u8 0), .lit (.int .u8 0)], [], places) :=
  ⟨[], by kernel_rfl⟩

set_option maxRecDepth 100000 in
theorem lifted (os : Os) (started : os.Started) (H : Type) (enc : TypeId × Value → H) (F : Stop.Interp) :
    ReturnsInHanded {} Tryd.checked os 11 .any ((OpenSpec.ofChange Rows.wordShiftsSpec).preRow enc Tryd.prog Tryd.f11 Rows.wordShiftsRow.domain false Rows.wordShiftsRow.laid) (((OpenSpec.ofChange Rows.wordShiftsSpec).at F).post enc Tryd.prog Tryd.f11 false true false false) := by
  obtain ⟨places, hx⟩ := reads os enc
  refine returnsInHanded_of_row (C := Tryd.checked) (s := OpenSpec.ofChange Rows.wordShiftsSpec) ownF started (by kernel_rfl) Tryd.func11
    (witness_row_at (enc := enc) (C := Tryd.checked) false (laidWorld os) #[.agg #[.int .u64 0, .int .u64 0, .int .u64 0, .int .u64 0], .int .u8 0, .int .u8 0] rfl (by kernel_rfl) (by kernel_rfl) (by kernel_rfl)
      (OpenSpec.preRow_of_cond 80 hx (by kernel_rfl) (fun k hk => by cases hk) (by kernel_rfl) (laid_met os))) ?_
  intro W base args ds gs before hval hW _ _ _ _ _ _
  exact contract H enc W base args ds gs before hval hW

theorem said : Rows.WordShiftsSaid :=
  OpenClaim.holds_of_cond 11 Tryd.f11 rfl rfl rfl rfl rfl rfl rfl ⟨rfl, rfl, rfl, rfl, rfl⟩ rfl rfl rfl rfl rfl (by kernel_rfl) Tryd.func11 (by kernel_rfl)
    (of_decide_eq_true (by kernel_rfl)) (by unfold Func.isWrapper; rw [if_neg (of_decide_eq_false (by kernel_rfl))]; exact ⟨rfl, rfl⟩)
    (fun os started H enc _ F => by rw [OpenClaim.pre_eq_preRow]; exact lifted os started H enc F)

/-- No parameter wants a stand-in; the program's own looks are off: what the card asks. -/
theorem plain (f : FuncId) (fn : Func) (hf : Tryd.pinned.checked.prog.funcNamed "bailiwick/bailiwicklaw01.WordShifts" = some f) (hfn : Tryd.pinned.checked.prog.funcs[f]? = some fn) :
    false = Tryd.pinned.checked.prog.looks [] ∧ ∀ (j : Nat) t, fn.params[j]? = some t → Tryd.pinned.checked.prog.wantsStandIn t = false := by
  obtain rfl : f = 11 := Option.some.inj ((show Tryd.prog.funcNamed "bailiwick/bailiwicklaw01.WordShifts" = some 11 by kernel_rfl).symm.trans hf) |>.symm
  obtain rfl : fn = Tryd.f11 := (Option.some.inj (Tryd.func11.symm.trans hfn)).symm
  refine ⟨by kernel_rfl, fun j t ht => ?_⟩
  rw [Tryd.params11] at ht
  have hm := Array.mem_of_getElem? ht
  simp only [List.mem_toArray, List.mem_cons, List.not_mem_nil, or_false] at hm
  rcases hm with rfl | rfl | rfl
  · exact (show Tryd.prog.wantsStandIn 24 = false by kernel_rfl)
  · exact (show Tryd.prog.wantsStandIn 5 = false by kernel_rfl)
  · exact (show Tryd.prog.wantsStandIn 5 = false by kernel_rfl)

/-- THE CARD. -/
theorem card : Rows.WordShiftsCardSaid :=
  Claim7.holds_tied_plain_at .later [] _ _ _ _ said (fun _ h => by cases h) (by kernel_rfl) (fun _ h => by cases h) wordShifts_row_tie rfl ⟨rfl, rfl⟩ (by kernel_rfl) rfl plain (by kernel_rfl)
end Go.Proofs.YthfadinocadhaaaDoor.wordShifts

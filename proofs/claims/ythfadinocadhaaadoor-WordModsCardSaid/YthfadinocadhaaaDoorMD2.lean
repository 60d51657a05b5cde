/- bailiwicklaw01.WordMods: the statement about it, and its card. CONDITIONS: the row's own: its three listed tables of the library read, when the call begins, as the program's text lays them; the card ties them to that text. (With it, merged: Tie1 · ModsAny · WordMods.) -/
import Derived.Test.YthfadinocadhaaaDoorN1
import Derived.Test.YthfadinocadhaaaDoorMD1
import Derived.Test.YthfadinocadhaaaDoorM5
import Derived.Deep.DeepCutAuto
import Derived.Test.YthfadinocadhaaaDoorM6
namespace Go.Proofs.YthfadinocadhaaaDoor
open Go.RowKit

section
variable {P : Program} {ops : Array Oper} {Q : Exit → Act → World → Prop} {C : (Nat → Value) → World → Prop} {φ : Nat → (Nat → Value) → World → Prop} {R : (Nat → Value) → World → World → Prop} {a0 : Act}

def StepU (P : Program) (ops : Array Oper) (Q : Exit → Act → World → Prop) (C : (Nat → Value) → World → Prop) (φ : Nat → (Nat → Value) → World → Prop) (R : (Nat → Value) → World → World → Prop) (k : Nat) (o : Oper) (a : Act) (w : World) : Prop :=
  if Region.wanted o (yielded ops a.tmps) then o.wp P a w (fun a' w' => ∃ v, a' = a.put o.dst v ∧ C (slots (a.put o.dst v)) w' ∧ φ k (slots (a.put o.dst v)) w' ∧ R (slots a) w w') Q else (C (slots (a.put o.dst undef)) w ∧ φ k (slots (a.put o.dst undef)) w)
def StepsU (P : Program) (ops : Array Oper) (Q : Exit → Act → World → Prop) (C : (Nat → Value) → World → Prop) (φ : Nat → (Nat → Value) → World → Prop) (R : (Nat → Value) → World → World → Prop) (a0 : Act) : Nat → List Oper → Prop
  | _, [] => True
  | k, o :: l => (∀ a w, C (slots a) w → a.tmps.size = a0.tmps.size → KnownT ops φ a0 o a w → StepU P ops Q C φ R k o a w) ∧ StepsU P ops Q C φ R a0 (k + 1) l
theorem StepsU.at_ : ∀ {l : List Oper} {k : Nat}, StepsU P ops Q C φ R a0 k l → ∀ (i : Nat) (o : Oper), l[i]? = some o → ∀ a w, C (slots a) w → a.tmps.size = a0.tmps.size → KnownT ops φ a0 o a w → StepU P ops Q C φ R (k + i) o a w
  | [], _, _, i, o, hi => by simp at hi
  | o :: l, k, h, 0, o', hi => by simp at hi; subst hi; exact h.1
  | o :: l, k, h, i + 1, o', hi => by
    have := StepsU.at_ h.2 i o' (by simpa using hi)
    rwa [show k + 1 + i = k + (i + 1) by omega] at this

theorem wpAny_tie2 (rd : Nat → List Nat) (rk : Nat → Nat) (hdist : distinctB ops.toList = true) (hlex : rankB ops rk = true) (hon : ∀ (i : Nat) (o : Oper), ops[i]? = some o → ∀ e ∈ o.after, e.on < ops.size) (hown : ownB ops rd = true)
    (hrd : ∀ i s s' w, (∀ t ∈ rd i, s t = s' t) → φ i s w → φ i s' w)
    (hφ : ∀ i s w w', C s w → R s w w' → φ i s w → φ i s w') (hst : StepsU P ops Q C φ R a0 0 ops.toList)
    (hQ : ∀ (f : Oper → Value) w, C (slots (putAll f ops.toList a0)) w → (∀ i o, ops[i]? = some o → φ i (slots (putAll f ops.toList a0)) w) → Q .normal (putAll f ops.toList a0) w) :
    ∀ (fuel : Nat) (listed : Array Bool) (a : Act) (w : World), listed.size = ops.size → listed.toList.count false ≤ fuel → C (slots a) w → a.tmps.size = a0.tmps.size → a.defers = a0.defers →
      (∀ t, isDst ops.toList t = false → a.tmps.getD t undef = a0.tmps.getD t undef) → (∀ i o, listed.getD i false = true → ops[i]? = some o → φ i (slots a) w ∧ ∀ e ∈ o.after, Region.binds .any e = true → listed.getD e.on false = true) → wpAny P .any ops Q fuel listed a w := by
  have done : ∀ (listed : Array Bool) (a : Act) (w : World), (∀ i, i < ops.size → listed.getD i false = true) → C (slots a) w → a.tmps.size = a0.tmps.size → a.defers = a0.defers →
      (∀ t, isDst ops.toList t = false → a.tmps.getD t undef = a0.tmps.getD t undef) → (∀ i o, listed.getD i false = true → ops[i]? = some o → φ i (slots a) w ∧ ∀ e ∈ o.after, Region.binds .any e = true → listed.getD e.on false = true) → Q .normal a w := by
    intro listed a w hall hC hs hd hk hp
    have hb := put_back hs hd hk
    rw [hb]
    exact hQ _ w (by rw [← hb]; exact hC) (fun i o ho => by rw [← hb]; exact (hp i o (hall i (Array.getElem?_eq_some_iff.1 ho).1) ho).1)
  intro fuel
  induction fuel with
  | zero =>
    intro listed a w hsz hc hC hs hd hk hp
    have hno : false ∉ listed.toList := List.count_eq_zero.1 (by omega)
    have hall : ∀ i, i < ops.size → listed.getD i false = true := fun i hi => by
      have hlt : i < listed.size := by omega
      have hm : listed[i] ∈ listed.toList := by simp
      simp only [Array.getD_eq_getD_getElem?, hlt, Array.getElem?_eq_getElem, Option.getD_some]
      cases h : listed[i] with
      | true => rfl
      | false => rw [h] at hm; exact absurd hm hno
    refine ⟨?_, done listed a w hall hC hs hd hk hp⟩
    rw [List.eq_nil_iff_forall_not_mem]
    intro j hj
    obtain ⟨h0, o, ho, -⟩ := mem_ready.1 hj
    have hlt := (Array.getElem?_eq_some_iff.1 ho).1
    have h1 := hall j hlt
    simp [show j < listed.size by omega] at h0 h1
    rw [h0] at h1
    cases h1
  | succ fuel ih =>
    intro listed a w hsz hc hC hs hd hk hp
    refine ⟨fun hr => ?_, fun i hi => ?_⟩
    · refine done listed a w ?_ hC hs hd hk hp
      -- the least that isn't listed would be ready
      have key : ∀ r i, rk i < r → i < ops.size → listed.getD i false = true := by
        intro r
        induction r with
        | zero => intro i h; omega
        | succ r ihr =>
          intro i hri hi
          cases h : listed.getD i false with
          | true => rfl
          | false =>
            have ho : ops[i]? = some ops[i] := Array.getElem?_eq_getElem hi
            have : i ∈ Region.ready .any ops listed := mem_ready.2 ⟨by simpa [show i < listed.size by omega] using h, ops[i], ho, fun e he hb => by
              have hl := hlex
              unfold rankB at hl
              rw [List.all_eq_true] at hl
              have := hl i (by simpa using hi)
              rw [ho] at this
              simp only [Array.all_eq_true_iff_forall_mem] at this
              have hlt := this e he
              rw [hb] at hlt
              simp at hlt
              exact ihr e.on (by omega) (hon i _ ho e he)⟩
            rw [hr] at this
            cases this
      exact fun i hi => key (rk i + 1) i (by omega) hi
    · obtain ⟨h0, o, ho, hall⟩ := mem_ready.1 hi
      have hlt : i < ops.size := (Array.getElem?_eq_some_iff.1 ho).1
      have hl' : ops.toList[i]? = some o := by simpa using ho
      have hstep := hst.at_ i o hl' a w hC hs ⟨hk, fun e he hb oj hj => (hp e.on oj (by have := hall e he hb; simpa using this) hj).1⟩
      rw [Nat.zero_add] at hstep
      have go : ∀ (v : Value) (w' : World), C (slots (a.put o.dst v)) w' → φ i (slots (a.put o.dst v)) w' → (∀ j, φ j (slots a) w → φ j (slots a) w') → wpAny P .any ops Q fuel (listed.setIfInBounds i true) (a.put o.dst v) w' := by
        intro v w' hC' hv hm
        refine ih _ _ _ (by simpa using hsz) ?_ hC' (by rw [put_size]; exact hs) (by rw [put_defers]; exact hd) ?_ ?_
        · have hil : i < listed.size := by omega
          have e0 : listed[i] = false := by simpa [hil] using h0
          rw [Array.toList_setIfInBounds, List.count_set (by simpa using hil)]
          have : listed.toList[i]'(by simpa using hil) = false := by simpa using e0
          simp only [this]
          simp
          have hpos : 0 < listed.toList.count false := List.count_pos_iff.2 (by rw [← e0]; simp)
          simp at hpos
          simp at hc
          omega
        · intro t ht
          have hne : o.dst ≠ some t := fun e => by
            simp only [isDst, List.any_eq_false] at ht
            exact ht o (List.mem_of_getElem? hl') (by simp [e])
          rw [put_other _ _ _ _ hne]
          exact hk t ht
        · intro j oj hj hoj
          by_cases e : i = j
          · subst e
            have : oj = o := Option.some.inj (hoj.symm.trans ho)
            subst this
            refine ⟨hv, fun e he hb => ?_⟩
            have h1 := hall e he hb
            by_cases q : i = e.on
            · rw [← q]; exact getD_set_same (by omega)
            · rw [getD_set_ne false q]; simpa using h1
          · rw [getD_set_ne false e] at hj
            obtain ⟨h1, h2⟩ := hp j oj hj hoj
            refine ⟨hrd j _ _ w' (fun t ht => ?_) (hm _ h1), fun e' he hb => ?_⟩
            · have hne : o.dst ≠ some t := fun hd' => by
                rcases own_spec hown hoj ht with h3 | h3 | ⟨e', he, hb, ok, hok, hkd⟩
                · exact distinct_spec hdist i j o oj t hl' (by simpa using hoj) e hd' h3
                · simp only [isDst, List.any_eq_false] at h3
                  exact h3 o (List.mem_of_getElem? hl') (by simp [hd'])
                · have h4 := h2 e' he hb
                  have h5 : i ≠ e'.on := fun q => by rw [← q, getD_both h0] at h4; cases h4
                  exact distinct_spec hdist i e'.on o ok t hl' (by simpa using hok) h5 hd' hkd
              exact (put_other _ _ _ _ hne).symm
            · by_cases q : i = e'.on
              · rw [← q]; exact getD_set_same (by omega)
              · rw [getD_set_ne false q]; exact h2 e' he hb
      unfold wpOp
      rw [ho]
      simp only
      unfold StepU at hstep
      split
      · rename_i hw
        rw [if_pos hw] at hstep
        refine .inl (Oper.wp_mono ?_ hstep)
        rintro a' w' ⟨v, rfl, hC', hv, hR⟩
        exact go v w' hC' hv (fun j h => hφ j _ w w' hC hR h)
      · rename_i hw
        rw [if_neg hw] at hstep
        exact go undef w hstep.1 hstep.2 (fun j h => h)

/-- THE LAW. -/
theorem region_tie2 {id : Nat} {l : List Oper} {w : World} (C : (Nat → Value) → World → Prop) (φ : Nat → (Nat → Value) → World → Prop) (R : (Nat → Value) → World → World → Prop) (rd : Nat → List Nat) (rk : Nat → Nat) (hm : P.follows .mixedOrders = true)
    (hB : (distinctB l && rankB l.toArray rk && ownB l.toArray rd && insideB l.toArray) = true) (hC : C (slots a0) w.drew)
    (hrd : ∀ i s s' w, (∀ t ∈ rd i, s t = s' t) → φ i s w → φ i s' w) (hφ : ∀ i s w w', C s w → R s w w' → φ i s w → φ i s w') (hst : StepsU P l.toArray Q C φ R a0 0 l)
    (hQ : ∀ (f : Oper → Value) w, C (slots (putAll f l a0)) w → (∀ i o, l[i]? = some o → φ i (slots (putAll f l a0)) w) → Q .normal (putAll f l a0) w) : (Code.region id l.toArray true).wp P Q a0 w := by
  simp only [Bool.and_eq_true] at hB
  refine wp_region_any hm (wpAny_tie2 (C := C) (φ := φ) (R := R) (a0 := a0) rd rk hB.1.1.1 hB.1.1.2 (inside_spec hB.2) hB.1.2 hrd hφ hst (fun f w hC h => hQ f w hC (fun i o ho => h i o (by simpa using ho))) _ _ _ w.drew (by simp) (by simp) hC rfl rfl (fun _ _ => rfl) ?_)
  intro i o hi
  simp at hi
  rcases Nat.lt_or_ge i l.length with h | h
  · simp [h] at hi
  · simp [Nat.not_lt.2 h] at hi

/-! What each kind of operation must do. -/
theorem uu_val {k : Nat} {o : Oper} {a : Act} {w : World} (v : Value) (hw : Region.wanted o (yielded ops a.tmps) = true) (hr : (execOp a.eval o).run P w = .ok (.value v) w) (hC : C (slots (a.put o.dst v)) w) (hv : φ k (slots (a.put o.dst v)) w) (hR : R (slots a) w w) : StepU P ops Q C φ R k o a w := by
  unfold StepU
  rw [if_pos hw]
  unfold Oper.wp
  rw [hr]
  exact ⟨v, rfl, hC, hv, hR⟩
theorem uu_skip {k : Nat} {o : Oper} {a : Act} {w : World} (hw : Region.wanted o (yielded ops a.tmps) = false) (hC : C (slots (a.put o.dst undef)) w) (hv : φ k (slots (a.put o.dst undef)) w) : StepU P ops Q C φ R k o a w := by
  unfold StepU
  rw [if_neg (by rw [hw]; exact Bool.false_ne_true)]
  exact ⟨hC, hv⟩
theorem uu_new {k : Nat} {o : Oper} {a : Act} {w w' : World} (v : Value) (hw : Region.wanted o (yielded ops a.tmps) = true) (hr : (execOp a.eval o).run P w = .ok (.value v) w') (hC : C (slots (a.put o.dst v)) w') (hv : φ k (slots (a.put o.dst v)) w') (hR : R (slots a) w w') : StepU P ops Q C φ R k o a w := by
  unfold StepU
  rw [if_pos hw]
  unfold Oper.wp
  rw [hr]
  exact ⟨v, rfl, hC, hv, hR⟩
theorem uu_v {k : Nat} {o : Oper} {a : Act} {w w' : World} (s : Sem Value) (v : Value) (hw : Region.wanted o (yielded ops a.tmps) = true) (ho : execOp a.eval o = (do let x ← s; pure (.value x))) (hr : s.run P w = .ok v w') (hC : C (slots (a.put o.dst v)) w') (hv : φ k (slots (a.put o.dst v)) w') (hR : R (slots a) w w') : StepU P ops Q C φ R k o a w :=
  uu_new v hw (by rw [ho]; simp only [Sem.run_bind, hr, Result.andThen_ok, Sem.run_pure]) hC hv hR
theorem uu_load {k : Nat} {o : Oper} {a : Act} {w : World} (T : TypeId) (x : Operand) (p v : Value) (ho : o.op = .load T x) (hw : Region.wanted o (yielded ops a.tmps) = true) (hp : a.eval x = p)
    (hr : (Instr.loadAt T p).run P w = .ok v w) (hC : C (slots (a.put o.dst v)) w) (hv : φ k (slots (a.put o.dst v)) w) (hR : R (slots a) w w) : StepU P ops Q C φ R k o a w :=
  uu_val v hw (by
    unfold execOp
    rw [ho]
    simp only [hp, Sem.run_bind, hr, Result.andThen_ok, Sem.run_pure]) hC hv hR
theorem uu_call {k : Nat} {o : Oper} {a : Act} {w : World} (f : FuncId) (args : Array Value) (hw : Region.wanted o (yielded ops a.tmps) = true) (he : (execOp a.eval o).run P w = .ok (.enter f args) w)
    (hc : Calls P f args w fun e w' => ∃ v, e = .returned v ∧ C (slots (a.put o.dst v)) w' ∧ φ k (slots (a.put o.dst v)) w' ∧ R (slots a) w w') : StepU P ops Q C φ R k o a w := by
  unfold StepU
  rw [if_pos hw]
  unfold Oper.wp
  rw [he]
  refine Calls.mono hc ?_
  rintro e w' ⟨v, rfl, h1, h2, h3⟩
  exact ⟨v, rfl, h1, h2, h3⟩
theorem uu_store {k : Nat} {o : Oper} {a : Act} {w w' : World} (hw : Region.wanted o (yielded ops a.tmps) = true) (hd : o.dst = none) (hr : (execOp a.eval o).run P w = .ok .skip w') (hC : C (slots a) w') (hv : φ k (slots a) w') (hR : R (slots a) w w') : StepU P ops Q C φ R k o a w := by
  unfold StepU
  rw [if_pos hw]
  unfold Oper.wp
  rw [hr]
  refine ⟨undef, by rw [hd], ?_, ?_, hR⟩
  · rw [hd]; exact hC
  · rw [hd]; exact hv
end
end Go.Proofs.YthfadinocadhaaaDoor
namespace Go.Proofs.YthfadinocadhaaaDoor
open Go.RowKit

theorem nb_same2 (x : Nat) (w : World) : (binOp BinOp.neq 24 (wv x) (wv x)).run Tryd.prog w = .ok (.bool false) w := by
  have h := nebx x x w
  simpa using h
theorem lssm2 (w : World) : (binOp BinOp.lss 3 (.int .i64 (-1)) (.int .i64 0)).run Tryd.prog w = .ok (.bool true) w := by kernel_rfl
theorem lssg2 (o1 o2 : Operand) (w : World) : (eqGuard BinOp.lss 3 o1 o2 (.int .i64 (-1)) (.int .i64 0)).run Tryd.prog w = .ok () w := by kernel_rfl
theorem eqzw_run (y : Nat) (b : Bool) (hb : decide (y % 115792089237316195423570985008687907853269984665640564039457584007913129639936 = 0) = b) (w : World) : (binOp BinOp.eql 24 (wv y) (.agg #[.int .u64 0, .int .u64 0, .int .u64 0, .int .u64 0])).run Tryd.prog w = .ok (.bool b) w := eqz_run y b hb w
theorem eqzw_guard (y : Nat) (o1 o2 : Operand) (w : World) : (eqGuard BinOp.eql 24 o1 o2 (wv y) (.agg #[.int .u64 0, .int .u64 0, .int .u64 0, .int .u64 0])).run Tryd.prog w = .ok () w := eqz_guard y o1 o2 w
theorem rest_less2 (A z : Nat) (hz : ¬ z % 115792089237316195423570985008687907853269984665640564039457584007913129639936 = 0) : ord (remV A z % 115792089237316195423570985008687907853269984665640564039457584007913129639936) (z % 115792089237316195423570985008687907853269984665640564039457584007913129639936) = -1 := by
  have h1 := Nat.mod_lt A (Nat.pos_of_ne_zero hz)
  have h2 := Nat.mod_lt z (show 115792089237316195423570985008687907853269984665640564039457584007913129639936 > 0 by omega)
  unfold remV
  rw [if_neg hz, Nat.mod_eq_of_lt (Nat.lt_trans h1 h2)]
  unfold ord
  rw [if_pos h1]

/-- The worlds of a law over three words. -/
structure CM (w : World) (x y z : Nat) (wx : World) : Prop where
  old : Below w.heap.size w wx
  r0 : wx.heap[w.heap.size]? = some (.cells (pw x) 24 (0, 0))
  r1 : wx.heap[w.heap.size + 1]? = some (.cells (pw y) 24 (0, 0))
  r2 : wx.heap[w.heap.size + 1 + 1]? = some (.cells (pw z) 24 (0, 0))
theorem CM.high {w wx : World} {x y z : Nat} (h : CM w x y z wx) : w.heap.size + 1 + 1 + 1 ≤ wx.heap.size := (Array.getElem?_eq_some_iff.1 h.r2).1
theorem CM.below {w wx w' : World} {x y z : Nat} (h : CM w x y z wx) (hb : Below wx.heap.size wx w') : CM w x y z w' := by
  have l := h.high
  exact ⟨h.old.trans (hb.mono h.old.size), (hb.block _ (by omega)).trans h.r0, (hb.block _ (by omega)).trans h.r1, (hb.block _ (by omega)).trans h.r2⟩
theorem CM.rowed {w wx : World} {x y z g : Nat} {cs : Array Value} (h : CM w x y z wx) (hg : w.heap.size + 1 + 1 + 1 ≤ g) : CM w x y z (wx.setRow g cs) :=
  ⟨below_setRow h.old (by omega) _, (setRow_other _ _ _ _ (by omega)).trans h.r0, (setRow_other _ _ _ _ (by omega)).trans h.r1, (setRow_other _ _ _ _ (by omega)).trans h.r2⟩
/-- Where the two results lie: apart, and behind what was there. -/
structure AP (H : Nat) (s : Nat → Value) (wx : World) : Prop where
  a7 : ∀ D, s 7 = .pointer (some ⟨D, 0, none⟩) → H ≤ D ∧ D < wx.heap.size
  a8 : ∀ D, s 8 = .pointer (some ⟨D, 0, none⟩) → H ≤ D ∧ D < wx.heap.size
  ne : ∀ D E, s 7 = .pointer (some ⟨D, 0, none⟩) → s 8 = .pointer (some ⟨E, 0, none⟩) → D ≠ E
theorem AP.start {H : Nat} {s : Nat → Value} {wx : World} (h7 : s 7 = undef) (h8 : s 8 = undef) : AP H s wx :=
  ⟨fun D hD => (by rw [h7] at hD; unfold undef at hD; cases hD), fun D hD => (by rw [h8] at hD; unfold undef at hD; cases hD), fun D E hD => (by rw [h7] at hD; unfold undef at hD; cases hD)⟩
theorem AP.put {H : Nat} {s s' : Nat → Value} {wx w' : World} (h : AP H s wx) (e7 : s' 7 = s 7) (e8 : s' 8 = s 8) (hl : wx.heap.size ≤ w'.heap.size) : AP H s' w' :=
  ⟨fun D hD => ⟨(h.a7 D (e7 ▸ hD)).1, Nat.lt_of_lt_of_le (h.a7 D (e7 ▸ hD)).2 hl⟩, fun D hD => ⟨(h.a8 D (e8 ▸ hD)).1, Nat.lt_of_lt_of_le (h.a8 D (e8 ▸ hD)).2 hl⟩, fun D E h1 h2 => h.ne D E (e7 ▸ h1) (e8 ▸ h2)⟩
theorem AP.new7 {H : Nat} {s s' : Nat → Value} {wx w' : World} (h : AP H s wx) (e7 : s' 7 = .pointer (some ⟨wx.heap.size, 0, none⟩)) (e8 : s' 8 = s 8) (hH : H ≤ wx.heap.size) (hl : wx.heap.size < w'.heap.size) : AP H s' w' :=
  ⟨fun D hD => by rw [e7] at hD; cases hD; exact ⟨hH, hl⟩, fun D hD => ⟨(h.a8 D (e8 ▸ hD)).1, Nat.lt_trans (h.a8 D (e8 ▸ hD)).2 hl⟩, fun D E h1 h2 => by rw [e7] at h1; cases h1; have := (h.a8 E (e8 ▸ h2)).2; omega⟩
theorem AP.new8 {H : Nat} {s s' : Nat → Value} {wx w' : World} (h : AP H s wx) (e8 : s' 8 = .pointer (some ⟨wx.heap.size, 0, none⟩)) (e7 : s' 7 = s 7) (hH : H ≤ wx.heap.size) (hl : wx.heap.size < w'.heap.size) : AP H s' w' :=
  ⟨fun D hD => ⟨(h.a7 D (e7 ▸ hD)).1, Nat.lt_trans (h.a7 D (e7 ▸ hD)).2 hl⟩, fun D hD => by rw [e8] at hD; cases hD; exact ⟨hH, hl⟩, fun D E h1 h2 => by rw [e8] at h2; cases h2; have := (h.a7 D (e7 ▸ h1)).2; omega⟩
/-- What a step does to what was there: nothing, or one of the results is laid. -/
def RM (p q : Nat) (s : Nat → Value) (wa wb : World) : Prop := (wa.heap.size ≤ wb.heap.size ∧ ∀ (k : Nat), k < wa.heap.size → wb.heap[k]? = wa.heap[k]?) ∨ ∃ (D : Nat) (cs : Array Value), (s 7 = .pointer (some ⟨D, 0, none⟩) ∧ cs = pw p ∨ s 8 = .pointer (some ⟨D, 0, none⟩) ∧ cs = pw q) ∧ wb = wa.setRow D cs
theorem RM.of {p q : Nat} {s : Nat → Value} {wa wb : World} (h : Below wa.heap.size wa wb) : RM p q s wa wb := .inl ⟨h.size, fun k hk => h.block k hk⟩
theorem RM.same {p q : Nat} {s : Nat → Value} (wa : World) : RM p q s wa wa := .inl ⟨Nat.le_refl _, fun _ _ => rfl⟩
theorem RM.shape {p q D : Nat} {s : Nat → Value} {wa wb : World} (hR : RM p q s wa wb) (h : ∃ cs : Array Value, wa.heap[D]? = some (.cells cs 24 (0, 0)) ∧ cs.size = 4) : ∃ cs : Array Value, wb.heap[D]? = some (.cells cs 24 (0, 0)) ∧ cs.size = 4 := by
  obtain ⟨cs, e, hs⟩ := h
  rcases hR with ⟨-, h⟩ | ⟨E, c1, h1, rfl⟩
  · exact ⟨cs, (h D (Array.getElem?_eq_some_iff.1 e).1).trans e, hs⟩
  · by_cases q : D = E
    · subst q
      exact ⟨c1, setRow_heap _ _ _ _ _ _ e, by rcases h1 with ⟨-, rfl⟩ | ⟨-, rfl⟩ <;> rfl⟩
    · exact ⟨cs, (setRow_other _ _ _ _ q).trans e, hs⟩
theorem RM.keep7 {p q D H : Nat} {s : Nat → Value} {wa wb : World} (hA : AP H s wa) (hR : RM p q s wa wb) (hs : s 7 = .pointer (some ⟨D, 0, none⟩)) (e : wa.heap[D]? = some (.cells (pw p) 24 (0, 0))) : wb.heap[D]? = some (.cells (pw p) 24 (0, 0)) := by
  rcases hR with ⟨-, h⟩ | ⟨E, c1, h1, rfl⟩
  · exact (h D (Array.getElem?_eq_some_iff.1 e).1).trans e
  · rcases h1 with ⟨h1, rfl⟩ | ⟨h1, rfl⟩
    · rw [hs] at h1; cases h1; exact setRow_heap _ _ _ _ _ _ e
    · exact (setRow_other _ _ _ _ (hA.ne D E hs h1)).trans e
theorem RM.keep8 {p q D H : Nat} {s : Nat → Value} {wa wb : World} (hA : AP H s wa) (hR : RM p q s wa wb) (hs : s 8 = .pointer (some ⟨D, 0, none⟩)) (e : wa.heap[D]? = some (.cells (pw q) 24 (0, 0))) : wb.heap[D]? = some (.cells (pw q) 24 (0, 0)) := by
  rcases hR with ⟨-, h⟩ | ⟨E, c1, h1, rfl⟩
  · exact (h D (Array.getElem?_eq_some_iff.1 e).1).trans e
  · rcases h1 with ⟨h1, rfl⟩ | ⟨h1, rfl⟩
    · exact (setRow_other _ _ _ _ (Ne.symm (hA.ne E D h1 hs))).trans e
    · rw [hs] at h1; cases h1; exact setRow_heap _ _ _ _ _ _ e
/-- The worlds of the last statements. -/
structure CN (w : World) (D E x y z p q : Nat) (wx : World) : Prop where
  cm : CM w x y z wx
  rp : wx.heap[D]? = some (.cells (pw p) 24 (0, 0))
  rq : wx.heap[E]? = some (.cells (pw q) 24 (0, 0))
theorem CN.below {w wx w' : World} {D E x y z p q : Nat} (h : CN w D E x y z p q wx) (hb : Below wx.heap.size wx w') : CN w D E x y z p q w' :=
  ⟨h.cm.below hb, (hb.block _ (Array.getElem?_eq_some_iff.1 h.rp).1).trans h.rp, (hb.block _ (Array.getElem?_eq_some_iff.1 h.rq).1).trans h.rq⟩
theorem CN.drew {w wx : World} {D E x y z p q : Nat} (h : CN w D E x y z p q wx) : CN w D E x y z p q wx.drew := ⟨⟨h.cm.old.drew, h.cm.r0, h.cm.r1, h.cm.r2⟩, h.rp, h.rq⟩
theorem CN.call {w : World} {D E x y z p q : Nat} {f : FuncId} {args : Array Value} {v : Value} (h : ∀ w, Calls Tryd.prog f args w fun e w' => e = .returned v ∧ Below w.heap.size w w') : ∀ wx, CN w D E x y z p q wx → Calls Tryd.prog f args wx fun e w' => e = .returned v ∧ CN w D E x y z p q w' :=
  fun wx hC => (h wx).mono fun _ _ h => ⟨h.1, hC.below h.2⟩

set_option maxRecDepth 100000 in
set_option maxHeartbeats 4000000 in
theorem mods_none (x y : Nat) (w : World)
    (h1 : ∀ w, Calls Tryd.prog 29 #[wv x, wv y, wv 0] w fun e w' => e = .returned (wv 0) ∧ Below w.heap.size w w')
    (h2 : ∀ w, Calls Tryd.prog 30 #[wv x, wv y, wv 0] w fun e w' => e = .returned (wv 0) ∧ Below w.heap.size w w')
    (h3 : ∀ w, Calls Tryd.prog 31 #[wv x, wv y, wv 0] w fun e w' => e = .returned (wv 0) ∧ Below w.heap.size w w')
    (h4 : ∀ w, Calls Tryd.prog 32 #[wv x, wv y, wv 0] w fun e w' => e = .returned (wv 0) ∧ Below w.heap.size w w') :
    Calls Tryd.prog 6 #[.agg (pw x), .agg (pw y), .agg (pw 0)] w fun e w' => e = .returned (.bool true) ∧ Below w.heap.size w w' := by
  have H1 := Lib.hid h1; clear h1
  have H2 := Lib.hid h2; clear h2
  have H3 := Lib.hid h3; clear h3
  have H4 := Lib.hid h4; clear h4
  go_enter Tryd.func6, Tryd.ntmps6
  go_wp2_with fail
  refine region_tie2 (fun s wx => CM w x y 0 wx ∧ AP (w.heap.size + 1 + 1 + 1) s wx) (fun i s wx => match i with | 0 => s 9 = wv x | 1 => s 10 = wv y | 2 => s 11 = wv 0 | 3 => s 12 = wv 0 | 4 => s 13 = wv x | 5 => s 14 = wv y | 6 => s 15 = wv 0 | 7 => s 16 = wv 0 | 8 => ∃ D, s 7 = .pointer (some ⟨D, 0, none⟩) ∧ ∃ cs : Array Value, wx.heap[D]? = some (.cells cs 24 (0, 0)) ∧ cs.size = 4 | 9 => ∃ D, s 8 = .pointer (some ⟨D, 0, none⟩) ∧ ∃ cs : Array Value, wx.heap[D]? = some (.cells cs 24 (0, 0)) ∧ cs.size = 4 | 10 => ∃ D, s 7 = .pointer (some ⟨D, 0, none⟩) ∧ wx.heap[D]? = some (.cells (pw 0) 24 (0, 0)) | 11 => ∃ D, s 8 = .pointer (some ⟨D, 0, none⟩) ∧ wx.heap[D]? = some (.cells (pw 0) 24 (0, 0)) | _ => True) (RM 0 0) (fun i => match i with | 0 => [9] | 1 => [10] | 2 => [11] | 3 => [12] | 4 => [13] | 5 => [14] | 6 => [15] | 7 => [16] | 8 => [7] | 9 => [8] | 10 => [7] | 11 => [8] | _ => []) (fun i => i) (by kernel_rfl) (by kernel_rfl) ⟨⟨Below.drew (by go_grown), (heap3 _ _ _ _).1, (heap3 _ _ _ _).2.1, (heap3 _ _ _ _).2.2⟩, AP.start (by kernel_rfl) (by kernel_rfl)⟩ ?_ ?_ ?_ ?_
  · intro i s s' wx he hp
    match i, he, hp with
    | 0, he, hp => exact (he 9 (by simp)).symm.trans hp
    | 1, he, hp => exact (he 10 (by simp)).symm.trans hp
    | 2, he, hp => exact (he 11 (by simp)).symm.trans hp
    | 3, he, hp => exact (he 12 (by simp)).symm.trans hp
    | 4, he, hp => exact (he 13 (by simp)).symm.trans hp
    | 5, he, hp => exact (he 14 (by simp)).symm.trans hp
    | 6, he, hp => exact (he 15 (by simp)).symm.trans hp
    | 7, he, hp => exact (he 16 (by simp)).symm.trans hp
    | 8, he, hp => obtain ⟨D, h1, h2⟩ := hp; exact ⟨D, (he 7 (by simp)).symm.trans h1, h2⟩
    | 9, he, hp => obtain ⟨D, h1, h2⟩ := hp; exact ⟨D, (he 8 (by simp)).symm.trans h1, h2⟩
    | 10, he, hp => obtain ⟨D, h1, h2⟩ := hp; exact ⟨D, (he 7 (by simp)).symm.trans h1, h2⟩
    | 11, he, hp => obtain ⟨D, h1, h2⟩ := hp; exact ⟨D, (he 8 (by simp)).symm.trans h1, h2⟩
    | _ + 12, _, _ => trivial
  · intro i s wa wb hC hR hp
    match i, hp with
    | 0, hp => exact hp
    | 1, hp => exact hp
    | 2, hp => exact hp
    | 3, hp => exact hp
    | 4, hp => exact hp
    | 5, hp => exact hp
    | 6, hp => exact hp
    | 7, hp => exact hp
    | 8, hp => obtain ⟨D, h1, h2⟩ := hp; exact ⟨D, h1, hR.shape h2⟩
    | 9, hp => obtain ⟨D, h1, h2⟩ := hp; exact ⟨D, h1, hR.shape h2⟩
    | 10, hp => obtain ⟨D, h1, h2⟩ := hp; exact ⟨D, h1, RM.keep7 hC.2 hR h1 h2⟩
    | 11, hp => obtain ⟨D, h1, h2⟩ := hp; exact ⟨D, h1, RM.keep8 hC.2 hR h1 h2⟩
    | _ + 12, _ => trivial
  · refine ⟨?_, ?_, ?_, ?_, ?_, ?_, ?_, ?_, ?_, ?_, ?_, ?_, trivial⟩
    · intro a wx hC hsz hK
      exact uu_load 24 (.tmp 3) (.pointer (some ⟨w.heap.size, 0, none⟩)) (wv x) rfl (by kernel_rfl) (hK.1 3 (by kernel_rfl)) (load_pw hC.1.r0) ⟨hC.1, (hC.2.put (slots_other _ 9 7 _ (by omega)) (slots_other _ 9 8 _ (by omega)) (Nat.le_refl _))⟩ (slots_put _ _ _ (by rw [hsz]; exact of_decide_eq_true (by kernel_rfl))) (RM.same _)
    · intro a wx hC hsz hK
      exact uu_load 24 (.tmp 4) (.pointer (some ⟨w.heap.size + 1, 0, none⟩)) (wv y) rfl (by kernel_rfl) (hK.1 4 (by kernel_rfl)) (load_pw hC.1.r1) ⟨hC.1, (hC.2.put (slots_other _ 10 7 _ (by omega)) (slots_other _ 10 8 _ (by omega)) (Nat.le_refl _))⟩ (slots_put _ _ _ (by rw [hsz]; exact of_decide_eq_true (by kernel_rfl))) (RM.same _)
    · intro a wx hC hsz hK
      exact uu_load 24 (.tmp 5) (.pointer (some ⟨w.heap.size + 1 + 1, 0, none⟩)) (wv 0) rfl (by kernel_rfl) (hK.1 5 (by kernel_rfl)) (load_pw hC.1.r2) ⟨hC.1, (hC.2.put (slots_other _ 11 7 _ (by omega)) (slots_other _ 11 8 _ (by omega)) (Nat.le_refl _))⟩ (slots_put _ _ _ (by rw [hsz]; exact of_decide_eq_true (by kernel_rfl))) (RM.same _)
    · intro a wx hC hsz hK
      have h0 : a.tmps.getD 9 undef = wv x := hK.2 ⟨0, .data⟩ (by simp) rfl _ rfl
      have h1 : a.tmps.getD 10 undef = wv y := hK.2 ⟨1, .data⟩ (by simp) rfl _ rfl
      have h2 : a.tmps.getD 11 undef = wv 0 := hK.2 ⟨2, .data⟩ (by simp) rfl _ rfl
      refine uu_call 29 #[a.tmps.getD 9 undef, a.tmps.getD 10 undef, a.tmps.getD 11 undef] (by kernel_rfl) (by kernel_rfl) ?_
      rw [h0, h1, h2]
      exact (H1.out wx).mono fun e w' hh => ⟨_, hh.1, ⟨hC.1.below hh.2, (hC.2.put (slots_other _ 12 7 _ (by omega)) (slots_other _ 12 8 _ (by omega)) hh.2.size)⟩, (slots_put _ _ _ (by rw [hsz]; exact of_decide_eq_true (by kernel_rfl))), RM.of hh.2⟩
    · intro a wx hC hsz hK
      exact uu_load 24 (.tmp 3) (.pointer (some ⟨w.heap.size, 0, none⟩)) (wv x) rfl (by kernel_rfl) (hK.1 3 (by kernel_rfl)) (load_pw hC.1.r0) ⟨hC.1, (hC.2.put (slots_other _ 13 7 _ (by omega)) (slots_other _ 13 8 _ (by omega)) (Nat.le_refl _))⟩ (slots_put _ _ _ (by rw [hsz]; exact of_decide_eq_true (by kernel_rfl))) (RM.same _)
    · intro a wx hC hsz hK
      exact uu_load 24 (.tmp 4) (.pointer (some ⟨w.heap.size + 1, 0, none⟩)) (wv y) rfl (by kernel_rfl) (hK.1 4 (by kernel_rfl)) (load_pw hC.1.r1) ⟨hC.1, (hC.2.put (slots_other _ 14 7 _ (by omega)) (slots_other _ 14 8 _ (by omega)) (Nat.le_refl _))⟩ (slots_put _ _ _ (by rw [hsz]; exact of_decide_eq_true (by kernel_rfl))) (RM.same _)
    · intro a wx hC hsz hK
      exact uu_load 24 (.tmp 5) (.pointer (some ⟨w.heap.size + 1 + 1, 0, none⟩)) (wv 0) rfl (by kernel_rfl) (hK.1 5 (by kernel_rfl)) (load_pw hC.1.r2) ⟨hC.1, (hC.2.put (slots_other _ 15 7 _ (by omega)) (slots_other _ 15 8 _ (by omega)) (Nat.le_refl _))⟩ (slots_put _ _ _ (by rw [hsz]; exact of_decide_eq_true (by kernel_rfl))) (RM.same _)
    · intro a wx hC hsz hK
      have h0 : a.tmps.getD 13 undef = wv x := hK.2 ⟨4, .data⟩ (by simp) rfl _ rfl
      have h1 : a.tmps.getD 14 undef = wv y := hK.2 ⟨5, .data⟩ (by simp) rfl _ rfl
      have h2 : a.tmps.getD 15 undef = wv 0 := hK.2 ⟨6, .data⟩ (by simp) rfl _ rfl
      refine uu_call 30 #[a.tmps.getD 13 undef, a.tmps.getD 14 undef, a.tmps.getD 15 undef] (by kernel_rfl) (by kernel_rfl) ?_
      rw [h0, h1, h2]
      exact (H2.out wx).mono fun e w' hh => ⟨_, hh.1, ⟨hC.1.below hh.2, (hC.2.put (slots_other _ 16 7 _ (by omega)) (slots_other _ 16 8 _ (by omega)) hh.2.size)⟩, (slots_put _ _ _ (by rw [hsz]; exact of_decide_eq_true (by kernel_rfl))), RM.of hh.2⟩
    · intro a wx hC hsz hK
      have hb : Below wx.heap.size wx (wx.alloc (.cells #[.int .u64 0, .int .u64 0, .int .u64 0, .int .u64 0] 24)) := (Below.refl _ _).alloc (Nat.le_refl _) _
      exact uu_new (.pointer (some ⟨wx.heap.size, 0, none⟩)) (by kernel_rfl) (by kernel_rfl) ⟨hC.1.below hb, hC.2.new7 (slots_put _ _ _ (by rw [hsz]; exact of_decide_eq_true (by kernel_rfl))) (slots_other _ 7 8 _ (by omega)) hC.1.high (by simp)⟩ ⟨_, (slots_put _ _ _ (by rw [hsz]; exact of_decide_eq_true (by kernel_rfl))), #[.int .u64 0, .int .u64 0, .int .u64 0, .int .u64 0], heap_alloc_new _ _, rfl⟩ (RM.of hb)
    · intro a wx hC hsz hK
      have hb : Below wx.heap.size wx (wx.alloc (.cells #[.int .u64 0, .int .u64 0, .int .u64 0, .int .u64 0] 24)) := (Below.refl _ _).alloc (Nat.le_refl _) _
      exact uu_new (.pointer (some ⟨wx.heap.size, 0, none⟩)) (by kernel_rfl) (by kernel_rfl) ⟨hC.1.below hb, hC.2.new8 (slots_put _ _ _ (by rw [hsz]; exact of_decide_eq_true (by kernel_rfl))) (slots_other _ 8 7 _ (by omega)) hC.1.high (by simp)⟩ ⟨_, (slots_put _ _ _ (by rw [hsz]; exact of_decide_eq_true (by kernel_rfl))), #[.int .u64 0, .int .u64 0, .int .u64 0, .int .u64 0], heap_alloc_new _ _, rfl⟩ (RM.of hb)
    · intro a wx hC hsz hK
      obtain ⟨D, h1, cs, h3, h4⟩ := hK.2 ⟨8, .data⟩ (by simp) rfl _ rfl
      have h0 : a.tmps.getD 12 undef = wv 0 := hK.2 ⟨3, .data⟩ (by simp) rfl _ rfl
      exact uu_store (by kernel_rfl) rfl (run_store 24 (.tmp 7) (.tmp 12) _ _ rfl h1 h0 (store_pw h4 h3)) ⟨hC.1.rowed (hC.2.a7 D h1).1, hC.2.put rfl rfl (by simp)⟩ ⟨D, h1, setRow_heap _ _ _ _ _ _ h3⟩ (.inr ⟨D, pw 0, .inl ⟨h1, rfl⟩, rfl⟩)
    · intro a wx hC hsz hK
      obtain ⟨D, h1, cs, h3, h4⟩ := hK.2 ⟨9, .data⟩ (by simp) rfl _ rfl
      have h0 : a.tmps.getD 16 undef = wv 0 := hK.2 ⟨7, .data⟩ (by simp) rfl _ rfl
      exact uu_store (by kernel_rfl) rfl (run_store 24 (.tmp 8) (.tmp 16) _ _ rfl h1 h0 (store_pw h4 h3)) ⟨hC.1.rowed (hC.2.a8 D h1).1, hC.2.put rfl rfl (by simp)⟩ ⟨D, h1, setRow_heap _ _ _ _ _ _ h3⟩ (.inr ⟨D, pw 0, .inr ⟨h1, rfl⟩, rfl⟩)
  · intro f wx hC hf
    have s9 := hf 0 _ rfl
    have s10 := hf 1 _ rfl
    have s11 := hf 2 _ rfl
    have s12 := hf 3 _ rfl
    have s13 := hf 4 _ rfl
    have s14 := hf 5 _ rfl
    have s15 := hf 6 _ rfl
    have s16 := hf 7 _ rfl
    obtain ⟨D, s7, rp⟩ := hf 10 _ rfl
    obtain ⟨E, s8, rq⟩ := hf 11 _ rfl
    have hcn : CN w D E x y 0 0 0 wx := ⟨hC.1, rp, rq⟩
    clear hf hC rp rq
    generalize hA : putAll _ _ _ = A at *
    have hsz : A.tmps.size = 59 := by rw [← hA, putAll_size]; rfl
    have t0 : A.tmps.getD 0 undef = .agg (pw x) := by subst hA; kernel_rfl
    have t1 : A.tmps.getD 1 undef = .agg (pw y) := by subst hA; kernel_rfl
    have t2 : A.tmps.getD 2 undef = .agg (pw 0) := by subst hA; kernel_rfl
    have t3 : A.tmps.getD 3 undef = .pointer (some ⟨w.heap.size, 0, none⟩) := by subst hA; kernel_rfl
    have t4 : A.tmps.getD 4 undef = .pointer (some ⟨w.heap.size + 1, 0, none⟩) := by subst hA; kernel_rfl
    have t5 : A.tmps.getD 5 undef = .pointer (some ⟨w.heap.size + 1 + 1, 0, none⟩) := by subst hA; kernel_rfl
    have t6 : A.tmps.getD 6 undef = .bool false := by subst hA; kernel_rfl
    have t17 : A.tmps.getD 17 undef = undef := by subst hA; kernel_rfl
    have t18 : A.tmps.getD 18 undef = undef := by subst hA; kernel_rfl
    have t19 : A.tmps.getD 19 undef = undef := by subst hA; kernel_rfl
    have t20 : A.tmps.getD 20 undef = undef := by subst hA; kernel_rfl
    have t21 : A.tmps.getD 21 undef = undef := by subst hA; kernel_rfl
    have t22 : A.tmps.getD 22 undef = undef := by subst hA; kernel_rfl
    have t23 : A.tmps.getD 23 undef = undef := by subst hA; kernel_rfl
    have t24 : A.tmps.getD 24 undef = undef := by subst hA; kernel_rfl
    have t25 : A.tmps.getD 25 undef = undef := by subst hA; kernel_rfl
    have t26 : A.tmps.getD 26 undef = undef := by subst hA; kernel_rfl
    have t27 : A.tmps.getD 27 undef = undef := by subst hA; kernel_rfl
    have t28 : A.tmps.getD 28 undef = undef := by subst hA; kernel_rfl
    have t29 : A.tmps.getD 29 undef = undef := by subst hA; kernel_rfl
    have t30 : A.tmps.getD 30 undef = undef := by subst hA; kernel_rfl
    have t31 : A.tmps.getD 31 undef = undef := by subst hA; kernel_rfl
    have t32 : A.tmps.getD 32 undef = undef := by subst hA; kernel_rfl
    have t33 : A.tmps.getD 33 undef = undef := by subst hA; kernel_rfl
    have t34 : A.tmps.getD 34 undef = undef := by subst hA; kernel_rfl
    have t35 : A.tmps.getD 35 undef = undef := by subst hA; kernel_rfl
    have t36 : A.tmps.getD 36 undef = undef := by subst hA; kernel_rfl
    have t37 : A.tmps.getD 37 undef = undef := by subst hA; kernel_rfl
    have t38 : A.tmps.getD 38 undef = undef := by subst hA; kernel_rfl
    have t39 : A.tmps.getD 39 undef = undef := by subst hA; kernel_rfl
    have t40 : A.tmps.getD 40 undef = undef := by subst hA; kernel_rfl
    have t41 : A.tmps.getD 41 undef = undef := by subst hA; kernel_rfl
    have t42 : A.tmps.getD 42 undef = undef := by subst hA; kernel_rfl
    have t43 : A.tmps.getD 43 undef = undef := by subst hA; kernel_rfl
    have t44 : A.tmps.getD 44 undef = undef := by subst hA; kernel_rfl
    have t45 : A.tmps.getD 45 undef = undef := by subst hA; kernel_rfl
    have t46 : A.tmps.getD 46 undef = undef := by subst hA; kernel_rfl
    have t47 : A.tmps.getD 47 undef = undef := by subst hA; kernel_rfl
    have t48 : A.tmps.getD 48 undef = undef := by subst hA; kernel_rfl
    have t49 : A.tmps.getD 49 undef = undef := by subst hA; kernel_rfl
    have t50 : A.tmps.getD 50 undef = undef := by subst hA; kernel_rfl
    have t51 : A.tmps.getD 51 undef = undef := by subst hA; kernel_rfl
    have t52 : A.tmps.getD 52 undef = undef := by subst hA; kernel_rfl
    have t53 : A.tmps.getD 53 undef = undef := by subst hA; kernel_rfl
    have t54 : A.tmps.getD 54 undef = undef := by subst hA; kernel_rfl
    have t55 : A.tmps.getD 55 undef = undef := by subst hA; kernel_rfl
    have t56 : A.tmps.getD 56 undef = undef := by subst hA; kernel_rfl
    have t57 : A.tmps.getD 57 undef = undef := by subst hA; kernel_rfl
    have t58 : A.tmps.getD 58 undef = undef := by subst hA; kernel_rfl
    have hd : A.defers = [] := by subst hA; kernel_rfl
    clear hA
    obtain ⟨tm, df⟩ := A
    simp only [slots] at *
    have hL := arr_lit tm
    rw [hsz] at hL
    simp only [List.range, List.range.loop, List.map] at hL
    rw [t0, t1, t2, t3, t4, t5, t6, s7, s8, s9, s10, s11, s12, s13, s14, s15, s16, t17, t18, t19, t20, t21, t22, t23, t24, t25, t26, t27, t28, t29, t30, t31, t32, t33, t34, t35, t36, t37, t38, t39, t40, t41, t42, t43, t44, t45, t46, t47, t48, t49, t50, t51, t52, t53, t54, t55, t56, t57, t58] at hL
    subst hL hd
    clear t0 t1 t2 t3 t4 t5 t6 s7 s8 s9 s10 s11 s12 s13 s14 s15 s16 t17 t18 t19 t20 t21 t22 t23 t24 t25 t26 t27 t28 t29 t30 t31 t32 t33 t34 t35 t36 t37 t38 t39 t40 t41 t42 t43 t44 t45 t46 t47 t48 t49 t50 t51 t52 t53 t54 t55 t56 t57 t58 hsz
    go_wp2_with fail
    have L3 := Lib.hid (fun wx (hC : (CN w D E x y 0 0 0) wx) => load_pw hC.cm.r0)
    have L4 := Lib.hid (fun wx (hC : (CN w D E x y 0 0 0) wx) => load_pw hC.cm.r1)
    have L5 := Lib.hid (fun wx (hC : (CN w D E x y 0 0 0) wx) => load_pw hC.cm.r2)
    have L7 := Lib.hid (fun wx (hC : (CN w D E x y 0 0 0) wx) => load_pw hC.rp)
    have L8 := Lib.hid (fun wx (hC : (CN w D E x y 0 0 0) wx) => load_pw hC.rq)
    have H3C := Lib.hid (CN.call (w := w) (D := D) (E := E) (x := x) (y := y) (z := 0) (p := 0) (q := 0) (args := #[wv x, wv y, wv 0]) (v := wv 0) H3.out)
    have H4C := Lib.hid (CN.call (w := w) (D := D) (E := E) (x := x) (y := y) (z := 0) (p := 0) (q := 0) (args := #[wv x, wv y, wv 0]) (v := wv 0) H4.out)
    have KL := Lib.hid (CN.call (w := w) (D := D) (E := E) (x := x) (y := y) (z := 0) (p := 0) (q := 0) lives_any)
    refine wp_region_quiet (C := (CN w D E x y 0 0 0)) (by kernel_rfl) (by kernel_rfl) hcn.drew ?_
    with_reducible refine q_load 24 (.tmp 7) (.pointer (some ⟨D, 0, none⟩)) (wv 0) rfl (by kernel_rfl) (by kernel_rfl) L7.out ?_
    with_reducible refine q_load 24 (.tmp 3) (.pointer (some ⟨w.heap.size, 0, none⟩)) (wv x) rfl (by kernel_rfl) (by kernel_rfl) L3.out ?_
    with_reducible refine q_load 24 (.tmp 4) (.pointer (some ⟨w.heap.size + 1, 0, none⟩)) (wv y) rfl (by kernel_rfl) (by kernel_rfl) L4.out ?_
    with_reducible refine q_load 24 (.tmp 5) (.pointer (some ⟨w.heap.size + 1 + 1, 0, none⟩)) (wv 0) rfl (by kernel_rfl) (by kernel_rfl) L5.out ?_
    with_reducible refine q_call 31 #[wv x, wv y, wv 0] (wv 0) (by kernel_rfl) (fun _ => by kernel_rfl) H3C.out ?_
    with_reducible refine q_bin .neq 24 _ _ 24 (wv 0) (wv 0) (.bool false) rfl (by kernel_rfl) (by kernel_rfl) (by kernel_rfl) (negx _ _ _ _) (nb_same2 _) ?_
    with_reducible refine q_val (.bool false) (by kernel_rfl) (fun _ _ => by kernel_rfl) ?_
    with_reducible refine q_load 24 (.tmp 8) (.pointer (some ⟨E, 0, none⟩)) (wv 0) rfl (by kernel_rfl) (by kernel_rfl) L8.out ?_
    with_reducible refine q_load 24 (.tmp 3) (.pointer (some ⟨w.heap.size, 0, none⟩)) (wv x) rfl (by kernel_rfl) (by kernel_rfl) L3.out ?_
    with_reducible refine q_load 24 (.tmp 4) (.pointer (some ⟨w.heap.size + 1, 0, none⟩)) (wv y) rfl (by kernel_rfl) (by kernel_rfl) L4.out ?_
    with_reducible refine q_load 24 (.tmp 5) (.pointer (some ⟨w.heap.size + 1 + 1, 0, none⟩)) (wv 0) rfl (by kernel_rfl) (by kernel_rfl) L5.out ?_
    with_reducible refine q_call 32 #[wv x, wv y, wv 0] (wv 0) (by kernel_rfl) (fun _ => by kernel_rfl) H4C.out ?_
    with_reducible refine q_bin .neq 24 _ _ 24 (wv 0) (wv 0) (.bool false) rfl (by kernel_rfl) (by kernel_rfl) (by kernel_rfl) (negx _ _ _ _) (nb_same2 _) ?_
    with_reducible refine q_val (.bool false) (by kernel_rfl) (fun _ _ => by kernel_rfl) ?_
    with_reducible refine wpQuiet_nil ?_
    intro wz hC
    generalize hA : Act.put _ _ _ = A
    have hF : A = ({tmps := #[.agg (pw x), .agg (pw y), .agg (pw 0), .pointer (some ⟨w.heap.size, 0, none⟩), .pointer (some ⟨w.heap.size + 1, 0, none⟩), .pointer (some ⟨w.heap.size + 1 + 1, 0, none⟩), .bool false, .pointer (some ⟨D, 0, none⟩), .pointer (some ⟨E, 0, none⟩), wv x, wv y, wv 0, wv 0, wv x, wv y, wv 0, wv 0, wv 0, wv x, wv y, wv 0, wv 0, .bool false, .bool false, wv 0, wv x, wv y, wv 0, wv 0, .bool false, .bool false, undef, undef, undef, undef, undef, undef, undef, undef, undef, undef, undef, undef, undef, undef, undef, undef, undef, undef, undef, undef, undef, undef, undef, undef, undef, undef, undef, undef], defers := []} : Act) := by subst hA; kernel_rfl
    clear hA
    subst hF
    have HC := Lib.hid hC; clear hC
    go_upto_region 4 with (fail)
    refine q_region (C := (CN w D E x y 0 0 0)) HC.out ?_
    with_reducible refine q_load 24 (.tmp 5) (.pointer (some ⟨w.heap.size + 1 + 1, 0, none⟩)) (wv 0) rfl (by kernel_rfl) (by kernel_rfl) L5.out ?_
    with_reducible refine q_val (.agg #[.int .u64 0, .int .u64 0, .int .u64 0, .int .u64 0]) (by kernel_rfl) (fun _ _ => by kernel_rfl) ?_
    with_reducible refine q_bin .eql 24 _ _ 24 (wv 0) (.agg #[.int .u64 0, .int .u64 0, .int .u64 0, .int .u64 0]) (.bool true) rfl (by kernel_rfl) (by kernel_rfl) (by kernel_rfl) (fun w => eqzw_guard 0 _ _ w) (fun w => eqzw_run 0 true rfl w) ?_
    with_reducible refine q_val (.bool true) (by kernel_rfl) (fun _ _ => by kernel_rfl) ?_
    with_reducible refine q_load 24 (.tmp 7) (.pointer (some ⟨D, 0, none⟩)) (wv 0) rfl (by kernel_rfl) (by kernel_rfl) L7.out ?_
    with_reducible refine q_load 24 (.tmp 5) (.pointer (some ⟨w.heap.size + 1 + 1, 0, none⟩)) (wv 0) rfl (by kernel_rfl) (by kernel_rfl) L5.out ?_
    with_reducible refine q_bin .eql 24 _ _ 24 (wv 0) (wv 0) (.bool true) rfl (by kernel_rfl) (by kernel_rfl) (by kernel_rfl) (eqg_any _ _ _) (eqb_any _) ?_
    with_reducible refine q_val (.bool true) (by kernel_rfl) (fun _ _ => by kernel_rfl) ?_
    with_reducible refine q_val (.bool true) (by kernel_rfl) (fun _ _ => by kernel_rfl) ?_
    with_reducible refine q_load 24 (.tmp 8) (.pointer (some ⟨E, 0, none⟩)) (wv 0) rfl (by kernel_rfl) (by kernel_rfl) L8.out ?_
    with_reducible refine q_load 24 (.tmp 5) (.pointer (some ⟨w.heap.size + 1 + 1, 0, none⟩)) (wv 0) rfl (by kernel_rfl) (by kernel_rfl) L5.out ?_
    with_reducible refine q_bin .eql 24 _ _ 24 (wv 0) (wv 0) (.bool true) rfl (by kernel_rfl) (by kernel_rfl) (by kernel_rfl) (eqg_any _ _ _) (eqb_any _) ?_
    with_reducible refine q_val (.bool true) (by kernel_rfl) (fun _ _ => by kernel_rfl) ?_
    with_reducible refine q_val (.bool true) (by kernel_rfl) (fun _ _ => by kernel_rfl) ?_
    with_reducible refine q_skip (by kernel_rfl) ?_
    with_reducible refine q_skip (by kernel_rfl) ?_
    with_reducible refine q_skip (by kernel_rfl) ?_
    with_reducible refine q_skip (by kernel_rfl) ?_
    with_reducible refine q_skip (by kernel_rfl) ?_
    with_reducible refine q_skip (by kernel_rfl) ?_
    with_reducible refine q_skip (by kernel_rfl) ?_
    with_reducible refine q_skip (by kernel_rfl) ?_
    with_reducible refine q_skip (by kernel_rfl) ?_
    with_reducible refine q_skip (by kernel_rfl) ?_
    with_reducible refine q_val (.bool true) (by kernel_rfl) (fun _ _ => by kernel_rfl) ?_
    with_reducible refine q_val (.bool true) (by kernel_rfl) (fun _ _ => by kernel_rfl) ?_
    with_reducible refine q_call 19 #[] (.bool true) (by kernel_rfl) (fun _ => by kernel_rfl) KL.out ?_
    with_reducible refine q_val (.bool true) (by kernel_rfl) (fun _ _ => by kernel_rfl) ?_
    with_reducible refine q_val (.bool true) (by kernel_rfl) (fun _ _ => by kernel_rfl) ?_
    with_reducible refine wpQuiet_nil ?_
    intro wy hC
    have hB := hC.cm.old
    clear hC
    generalize hA : Act.put _ _ _ = A
    have h6 : A.tmps.getD 6 undef = Value.bool true := by subst hA; kernel_rfl
    have hd : A.defers = [] := by subst hA; kernel_rfl
    clear hA
    go_wp2
    (try simp only [Exit.inBlock, Exit.then])
    refine bodyPost_ret (v := .bool true) (by rw [results_tmp rfl _ _ _, h6]) hd ⟨rfl, hB⟩

set_option maxRecDepth 100000 in
set_option maxHeartbeats 4000000 in
theorem mods_some (x y z p q : Nat) (hz : ¬ z % 115792089237316195423570985008687907853269984665640564039457584007913129639936 = 0) (w : World)
    (h1 : ∀ w, Calls Tryd.prog 29 #[wv x, wv y, wv z] w fun e w' => e = .returned (wv p) ∧ Below w.heap.size w w')
    (h2 : ∀ w, Calls Tryd.prog 30 #[wv x, wv y, wv z] w fun e w' => e = .returned (wv q) ∧ Below w.heap.size w w')
    (h3 : ∀ w, Calls Tryd.prog 31 #[wv x, wv y, wv z] w fun e w' => e = .returned (wv p) ∧ Below w.heap.size w w')
    (h4 : ∀ w, Calls Tryd.prog 32 #[wv x, wv y, wv z] w fun e w' => e = .returned (wv q) ∧ Below w.heap.size w w')
    (h5 : ∀ w, Calls Tryd.prog 22 #[wv p, wv z] w fun e w' => e = .returned (.int .i64 (-1)) ∧ Below w.heap.size w w')
    (h6 : ∀ w, Calls Tryd.prog 22 #[wv q, wv z] w fun e w' => e = .returned (.int .i64 (-1)) ∧ Below w.heap.size w w') :
    Calls Tryd.prog 6 #[.agg (pw x), .agg (pw y), .agg (pw z)] w fun e w' => e = .returned (.bool true) ∧ Below w.heap.size w w' := by
  have H1 := Lib.hid h1; clear h1
  have H2 := Lib.hid h2; clear h2
  have H3 := Lib.hid h3; clear h3
  have H4 := Lib.hid h4; clear h4
  have H5 := Lib.hid h5; clear h5
  have H6 := Lib.hid h6; clear h6
  go_enter Tryd.func6, Tryd.ntmps6
  go_wp2_with fail
  refine region_tie2 (fun s wx => CM w x y z wx ∧ AP (w.heap.size + 1 + 1 + 1) s wx) (fun i s wx => match i with | 0 => s 9 = wv x | 1 => s 10 = wv y | 2 => s 11 = wv z | 3 => s 12 = wv p | 4 => s 13 = wv x | 5 => s 14 = wv y | 6 => s 15 = wv z | 7 => s 16 = wv q | 8 => ∃ D, s 7 = .pointer (some ⟨D, 0, none⟩) ∧ ∃ cs : Array Value, wx.heap[D]? = some (.cells cs 24 (0, 0)) ∧ cs.size = 4 | 9 => ∃ D, s 8 = .pointer (some ⟨D, 0, none⟩) ∧ ∃ cs : Array Value, wx.heap[D]? = some (.cells cs 24 (0, 0)) ∧ cs.size = 4 | 10 => ∃ D, s 7 = .pointer (some ⟨D, 0, none⟩) ∧ wx.heap[D]? = some (.cells (pw p) 24 (0, 0)) | 11 => ∃ D, s 8 = .pointer (some ⟨D, 0, none⟩) ∧ wx.heap[D]? = some (.cells (pw q) 24 (0, 0)) | _ => True) (RM p q) (fun i => match i with | 0 => [9] | 1 => [10] | 2 => [11] | 3 => [12] | 4 => [13] | 5 => [14] | 6 => [15] | 7 => [16] | 8 => [7] | 9 => [8] | 10 => [7] | 11 => [8] | _ => []) (fun i => i) (by kernel_rfl) (by kernel_rfl) ⟨⟨Below.drew (by go_grown), (heap3 _ _ _ _).1, (heap3 _ _ _ _).2.1, (heap3 _ _ _ _).2.2⟩, AP.start (by kernel_rfl) (by kernel_rfl)⟩ ?_ ?_ ?_ ?_
  · intro i s s' wx he hp
    match i, he, hp with
    | 0, he, hp => exact (he 9 (by simp)).symm.trans hp
    | 1, he, hp => exact (he 10 (by simp)).symm.trans hp
    | 2, he, hp => exact (he 11 (by simp)).symm.trans hp
    | 3, he, hp => exact (he 12 (by simp)).symm.trans hp
    | 4, he, hp => exact (he 13 (by simp)).symm.trans hp
    | 5, he, hp => exact (he 14 (by simp)).symm.trans hp
    | 6, he, hp => exact (he 15 (by simp)).symm.trans hp
    | 7, he, hp => exact (he 16 (by simp)).symm.trans hp
    | 8, he, hp => obtain ⟨D, h1, h2⟩ := hp; exact ⟨D, (he 7 (by simp)).symm.trans h1, h2⟩
    | 9, he, hp => obtain ⟨D, h1, h2⟩ := hp; exact ⟨D, (he 8 (by simp)).symm.trans h1, h2⟩
    | 10, he, hp => obtain ⟨D, h1, h2⟩ := hp; exact ⟨D, (he 7 (by simp)).symm.trans h1, h2⟩
    | 11, he, hp => obtain ⟨D, h1, h2⟩ := hp; exact ⟨D, (he 8 (by simp)).symm.trans h1, h2⟩
    | _ + 12, _, _ => trivial
  · intro i s wa wb hC hR hp
    match i, hp with
    | 0, hp => exact hp
    | 1, hp => exact hp
    | 2, hp => exact hp
    | 3, hp => exact hp
    | 4, hp => exact hp
    | 5, hp => exact hp
    | 6, hp => exact hp
    | 7, hp => exact hp
    | 8, hp => obtain ⟨D, h1, h2⟩ := hp; exact ⟨D, h1, hR.shape h2⟩
    | 9, hp => obtain ⟨D, h1, h2⟩ := hp; exact ⟨D, h1, hR.shape h2⟩
    | 10, hp => obtain ⟨D, h1, h2⟩ := hp; exact ⟨D, h1, RM.keep7 hC.2 hR h1 h2⟩
    | 11, hp => obtain ⟨D, h1, h2⟩ := hp; exact ⟨D, h1, RM.keep8 hC.2 hR h1 h2⟩
    | _ + 12, _ => trivial
  · refine ⟨?_, ?_, ?_, ?_, ?_, ?_, ?_, ?_, ?_, ?_, ?_, ?_, trivial⟩
    · intro a wx hC hsz hK
      exact uu_load 24 (.tmp 3) (.pointer (some ⟨w.heap.size, 0, none⟩)) (wv x) rfl (by kernel_rfl) (hK.1 3 (by kernel_rfl)) (load_pw hC.1.r0) ⟨hC.1, (hC.2.put (slots_other _ 9 7 _ (by omega)) (slots_other _ 9 8 _ (by omega)) (Nat.le_refl _))⟩ (slots_put _ _ _ (by rw [hsz]; exact of_decide_eq_true (by kernel_rfl))) (RM.same _)
    · intro a wx hC hsz hK
      exact uu_load 24 (.tmp 4) (.pointer (some ⟨w.heap.size + 1, 0, none⟩)) (wv y) rfl (by kernel_rfl) (hK.1 4 (by kernel_rfl)) (load_pw hC.1.r1) ⟨hC.1, (hC.2.put (slots_other _ 10 7 _ (by omega)) (slots_other _ 10 8 _ (by omega)) (Nat.le_refl _))⟩ (slots_put _ _ _ (by rw [hsz]; exact of_decide_eq_true (by kernel_rfl))) (RM.same _)
    · intro a wx hC hsz hK
      exact uu_load 24 (.tmp 5) (.pointer (some ⟨w.heap.size + 1 + 1, 0, none⟩)) (wv z) rfl (by kernel_rfl) (hK.1 5 (by kernel_rfl)) (load_pw hC.1.r2) ⟨hC.1, (hC.2.put (slots_other _ 11 7 _ (by omega)) (slots_other _ 11 8 _ (by omega)) (Nat.le_refl _))⟩ (slots_put _ _ _ (by rw [hsz]; exact of_decide_eq_true (by kernel_rfl))) (RM.same _)
    · intro a wx hC hsz hK
      have h0 : a.tmps.getD 9 undef = wv x := hK.2 ⟨0, .data⟩ (by simp) rfl _ rfl
      have h1 : a.tmps.getD 10 undef = wv y := hK.2 ⟨1, .data⟩ (by simp) rfl _ rfl
      have h2 : a.tmps.getD 11 undef = wv z := hK.2 ⟨2, .data⟩ (by simp) rfl _ rfl
      refine uu_call 29 #[a.tmps.getD 9 undef, a.tmps.getD 10 undef, a.tmps.getD 11 undef] (by kernel_rfl) (by kernel_rfl) ?_
      rw [h0, h1, h2]
      exact (H1.out wx).mono fun e w' hh => ⟨_, hh.1, ⟨hC.1.below hh.2, (hC.2.put (slots_other _ 12 7 _ (by omega)) (slots_other _ 12 8 _ (by omega)) hh.2.size)⟩, (slots_put _ _ _ (by rw [hsz]; exact of_decide_eq_true (by kernel_rfl))), RM.of hh.2⟩
    · intro a wx hC hsz hK
      exact uu_load 24 (.tmp 3) (.pointer (some ⟨w.heap.size, 0, none⟩)) (wv x) rfl (by kernel_rfl) (hK.1 3 (by kernel_rfl)) (load_pw hC.1.r0) ⟨hC.1, (hC.2.put (slots_other _ 13 7 _ (by omega)) (slots_other _ 13 8 _ (by omega)) (Nat.le_refl _))⟩ (slots_put _ _ _ (by rw [hsz]; exact of_decide_eq_true (by kernel_rfl))) (RM.same _)
    · intro a wx hC hsz hK
      exact uu_load 24 (.tmp 4) (.pointer (some ⟨w.heap.size + 1, 0, none⟩)) (wv y) rfl (by kernel_rfl) (hK.1 4 (by kernel_rfl)) (load_pw hC.1.r1) ⟨hC.1, (hC.2.put (slots_other _ 14 7 _ (by omega)) (slots_other _ 14 8 _ (by omega)) (Nat.le_refl _))⟩ (slots_put _ _ _ (by rw [hsz]; exact of_decide_eq_true (by kernel_rfl))) (RM.same _)
    · intro a wx hC hsz hK
      exact uu_load 24 (.tmp 5) (.pointer (some ⟨w.heap.size + 1 + 1, 0, none⟩)) (wv z) rfl (by kernel_rfl) (hK.1 5 (by kernel_rfl)) (load_pw hC.1.r2) ⟨hC.1, (hC.2.put (slots_other _ 15 7 _ (by omega)) (slots_other _ 15 8 _ (by omega)) (Nat.le_refl _))⟩ (slots_put _ _ _ (by rw [hsz]; exact of_decide_eq_true (by kernel_rfl))) (RM.same _)
    · intro a wx hC hsz hK
      have h0 : a.tmps.getD 13 undef = wv x := hK.2 ⟨4, .data⟩ (by simp) rfl _ rfl
      have h1 : a.tmps.getD 14 undef = wv y := hK.2 ⟨5, .data⟩ (by simp) rfl _ rfl
      have h2 : a.tmps.getD 15 undef = wv z := hK.2 ⟨6, .data⟩ (by simp) rfl _ rfl
      refine uu_call 30 #[a.tmps.getD 13 undef, a.tmps.getD 14 undef, a.tmps.getD 15 undef] (by kernel_rfl) (by kernel_rfl) ?_
      rw [h0, h1, h2]
      exact (H2.out wx).mono fun e w' hh => ⟨_, hh.1, ⟨hC.1.below hh.2, (hC.2.put (slots_other _ 16 7 _ (by omega)) (slots_other _ 16 8 _ (by omega)) hh.2.size)⟩, (slots_put _ _ _ (by rw [hsz]; exact of_decide_eq_true (by kernel_rfl))), RM.of hh.2⟩
    · intro a wx hC hsz hK
      have hb : Below wx.heap.size wx (wx.alloc (.cells #[.int .u64 0, .int .u64 0, .int .u64 0, .int .u64 0] 24)) := (Below.refl _ _).alloc (Nat.le_refl _) _
      exact uu_new (.pointer (some ⟨wx.heap.size, 0, none⟩)) (by kernel_rfl) (by kernel_rfl) ⟨hC.1.below hb, hC.2.new7 (slots_put _ _ _ (by rw [hsz]; exact of_decide_eq_true (by kernel_rfl))) (slots_other _ 7 8 _ (by omega)) hC.1.high (by simp)⟩ ⟨_, (slots_put _ _ _ (by rw [hsz]; exact of_decide_eq_true (by kernel_rfl))), #[.int .u64 0, .int .u64 0, .int .u64 0, .int .u64 0], heap_alloc_new _ _, rfl⟩ (RM.of hb)
    · intro a wx hC hsz hK
      have hb : Below wx.heap.size wx (wx.alloc (.cells #[.int .u64 0, .int .u64 0, .int .u64 0, .int .u64 0] 24)) := (Below.refl _ _).alloc (Nat.le_refl _) _
      exact uu_new (.pointer (some ⟨wx.heap.size, 0, none⟩)) (by kernel_rfl) (by kernel_rfl) ⟨hC.1.below hb, hC.2.new8 (slots_put _ _ _ (by rw [hsz]; exact of_decide_eq_true (by kernel_rfl))) (slots_other _ 8 7 _ (by omega)) hC.1.high (by simp)⟩ ⟨_, (slots_put _ _ _ (by rw [hsz]; exact of_decide_eq_true (by kernel_rfl))), #[.int .u64 0, .int .u64 0, .int .u64 0, .int .u64 0], heap_alloc_new _ _, rfl⟩ (RM.of hb)
    · intro a wx hC hsz hK
      obtain ⟨D, h1, cs, h3, h4⟩ := hK.2 ⟨8, .data⟩ (by simp) rfl _ rfl
      have h0 : a.tmps.getD 12 undef = wv p := hK.2 ⟨3, .data⟩ (by simp) rfl _ rfl
      exact uu_store (by kernel_rfl) rfl (run_store 24 (.tmp 7) (.tmp 12) _ _ rfl h1 h0 (store_pw h4 h3)) ⟨hC.1.rowed (hC.2.a7 D h1).1, hC.2.put rfl rfl (by simp)⟩ ⟨D, h1, setRow_heap _ _ _ _ _ _ h3⟩ (.inr ⟨D, pw p, .inl ⟨h1, rfl⟩, rfl⟩)
    · intro a wx hC hsz hK
      obtain ⟨D, h1, cs, h3, h4⟩ := hK.2 ⟨9, .data⟩ (by simp) rfl _ rfl
      have h0 : a.tmps.getD 16 undef = wv q := hK.2 ⟨7, .data⟩ (by simp) rfl _ rfl
      exact uu_store (by kernel_rfl) rfl (run_store 24 (.tmp 8) (.tmp 16) _ _ rfl h1 h0 (store_pw h4 h3)) ⟨hC.1.rowed (hC.2.a8 D h1).1, hC.2.put rfl rfl (by simp)⟩ ⟨D, h1, setRow_heap _ _ _ _ _ _ h3⟩ (.inr ⟨D, pw q, .inr ⟨h1, rfl⟩, rfl⟩)
  · intro f wx hC hf
    have s9 := hf 0 _ rfl
    have s10 := hf 1 _ rfl
    have s11 := hf 2 _ rfl
    have s12 := hf 3 _ rfl
    have s13 := hf 4 _ rfl
    have s14 := hf 5 _ rfl
    have s15 := hf 6 _ rfl
    have s16 := hf 7 _ rfl
    obtain ⟨D, s7, rp⟩ := hf 10 _ rfl
    obtain ⟨E, s8, rq⟩ := hf 11 _ rfl
    have hcn : CN w D E x y z p q wx := ⟨hC.1, rp, rq⟩
    clear hf hC rp rq
    generalize hA : putAll _ _ _ = A at *
    have hsz : A.tmps.size = 59 := by rw [← hA, putAll_size]; rfl
    have t0 : A.tmps.getD 0 undef = .agg (pw x) := by subst hA; kernel_rfl
    have t1 : A.tmps.getD 1 undef = .agg (pw y) := by subst hA; kernel_rfl
    have t2 : A.tmps.getD 2 undef = .agg (pw z) := by subst hA; kernel_rfl
    have t3 : A.tmps.getD 3 undef = .pointer (some ⟨w.heap.size, 0, none⟩) := by subst hA; kernel_rfl
    have t4 : A.tmps.getD 4 undef = .pointer (some ⟨w.heap.size + 1, 0, none⟩) := by subst hA; kernel_rfl
    have t5 : A.tmps.getD 5 undef = .pointer (some ⟨w.heap.size + 1 + 1, 0, none⟩) := by subst hA; kernel_rfl
    have t6 : A.tmps.getD 6 undef = .bool false := by subst hA; kernel_rfl
    have t17 : A.tmps.getD 17 undef = undef := by subst hA; kernel_rfl
    have t18 : A.tmps.getD 18 undef = undef := by subst hA; kernel_rfl
    have t19 : A.tmps.getD 19 undef = undef := by subst hA; kernel_rfl
    have t20 : A.tmps.getD 20 undef = undef := by subst hA; kernel_rfl
    have t21 : A.tmps.getD 21 undef = undef := by subst hA; kernel_rfl
    have t22 : A.tmps.getD 22 undef = undef := by subst hA; kernel_rfl
    have t23 : A.tmps.getD 23 undef = undef := by subst hA; kernel_rfl
    have t24 : A.tmps.getD 24 undef = undef := by subst hA; kernel_rfl
    have t25 : A.tmps.getD 25 undef = undef := by subst hA; kernel_rfl
    have t26 : A.tmps.getD 26 undef = undef := by subst hA; kernel_rfl
    have t27 : A.tmps.getD 27 undef = undef := by subst hA; kernel_rfl
    have t28 : A.tmps.getD 28 undef = undef := by subst hA; kernel_rfl
    have t29 : A.tmps.getD 29 undef = undef := by subst hA; kernel_rfl
    have t30 : A.tmps.getD 30 undef = undef := by subst hA; kernel_rfl
    have t31 : A.tmps.getD 31 undef = undef := by subst hA; kernel_rfl
    have t32 : A.tmps.getD 32 undef = undef := by subst hA; kernel_rfl
    have t33 : A.tmps.getD 33 undef = undef := by subst hA; kernel_rfl
    have t34 : A.tmps.getD 34 undef = undef := by subst hA; kernel_rfl
    have t35 : A.tmps.getD 35 undef = undef := by subst hA; kernel_rfl
    have t36 : A.tmps.getD 36 undef = undef := by subst hA; kernel_rfl
    have t37 : A.tmps.getD 37 undef = undef := by subst hA; kernel_rfl
    have t38 : A.tmps.getD 38 undef = undef := by subst hA; kernel_rfl
    have t39 : A.tmps.getD 39 undef = undef := by subst hA; kernel_rfl
    have t40 : A.tmps.getD 40 undef = undef := by subst hA; kernel_rfl
    have t41 : A.tmps.getD 41 undef = undef := by subst hA; kernel_rfl
    have t42 : A.tmps.getD 42 undef = undef := by subst hA; kernel_rfl
    have t43 : A.tmps.getD 43 undef = undef := by subst hA; kernel_rfl
    have t44 : A.tmps.getD 44 undef = undef := by subst hA; kernel_rfl
    have t45 : A.tmps.getD 45 undef = undef := by subst hA; kernel_rfl
    have t46 : A.tmps.getD 46 undef = undef := by subst hA; kernel_rfl
    have t47 : A.tmps.getD 47 undef = undef := by subst hA; kernel_rfl
    have t48 : A.tmps.getD 48 undef = undef := by subst hA; kernel_rfl
    have t49 : A.tmps.getD 49 undef = undef := by subst hA; kernel_rfl
    have t50 : A.tmps.getD 50 undef = undef := by subst hA; kernel_rfl
    have t51 : A.tmps.getD 51 undef = undef := by subst hA; kernel_rfl
    have t52 : A.tmps.getD 52 undef = undef := by subst hA; kernel_rfl
    have t53 : A.tmps.getD 53 undef = undef := by subst hA; kernel_rfl
    have t54 : A.tmps.getD 54 undef = undef := by subst hA; kernel_rfl
    have t55 : A.tmps.getD 55 undef = undef := by subst hA; kernel_rfl
    have t56 : A.tmps.getD 56 undef = undef := by subst hA; kernel_rfl
    have t57 : A.tmps.getD 57 undef = undef := by subst hA; kernel_rfl
    have t58 : A.tmps.getD 58 undef = undef := by subst hA; kernel_rfl
    have hd : A.defers = [] := by subst hA; kernel_rfl
    clear hA
    obtain ⟨tm, df⟩ := A
    simp only [slots] at *
    have hL := arr_lit tm
    rw [hsz] at hL
    simp only [List.range, List.range.loop, List.map] at hL
    rw [t0, t1, t2, t3, t4, t5, t6, s7, s8, s9, s10, s11, s12, s13, s14, s15, s16, t17, t18, t19, t20, t21, t22, t23, t24, t25, t26, t27, t28, t29, t30, t31, t32, t33, t34, t35, t36, t37, t38, t39, t40, t41, t42, t43, t44, t45, t46, t47, t48, t49, t50, t51, t52, t53, t54, t55, t56, t57, t58] at hL
    subst hL hd
    clear t0 t1 t2 t3 t4 t5 t6 s7 s8 s9 s10 s11 s12 s13 s14 s15 s16 t17 t18 t19 t20 t21 t22 t23 t24 t25 t26 t27 t28 t29 t30 t31 t32 t33 t34 t35 t36 t37 t38 t39 t40 t41 t42 t43 t44 t45 t46 t47 t48 t49 t50 t51 t52 t53 t54 t55 t56 t57 t58 hsz
    go_wp2_with fail
    have L3 := Lib.hid (fun wx (hC : (CN w D E x y z p q) wx) => load_pw hC.cm.r0)
    have L4 := Lib.hid (fun wx (hC : (CN w D E x y z p q) wx) => load_pw hC.cm.r1)
    have L5 := Lib.hid (fun wx (hC : (CN w D E x y z p q) wx) => load_pw hC.cm.r2)
    have L7 := Lib.hid (fun wx (hC : (CN w D E x y z p q) wx) => load_pw hC.rp)
    have L8 := Lib.hid (fun wx (hC : (CN w D E x y z p q) wx) => load_pw hC.rq)
    have H3C := Lib.hid (CN.call (w := w) (D := D) (E := E) (x := x) (y := y) (z := z) (p := p) (q := q) (args := #[wv x, wv y, wv z]) (v := wv p) H3.out)
    have H4C := Lib.hid (CN.call (w := w) (D := D) (E := E) (x := x) (y := y) (z := z) (p := p) (q := q) (args := #[wv x, wv y, wv z]) (v := wv q) H4.out)
    have H5C := Lib.hid (CN.call (w := w) (D := D) (E := E) (x := x) (y := y) (z := z) (p := p) (q := q) (args := #[wv p, wv z]) (v := .int .i64 (-1)) H5.out)
    have H6C := Lib.hid (CN.call (w := w) (D := D) (E := E) (x := x) (y := y) (z := z) (p := p) (q := q) (args := #[wv q, wv z]) (v := .int .i64 (-1)) H6.out)
    have KL := Lib.hid (CN.call (w := w) (D := D) (E := E) (x := x) (y := y) (z := z) (p := p) (q := q) lives_any)
    refine wp_region_quiet (C := (CN w D E x y z p q)) (by kernel_rfl) (by kernel_rfl) hcn.drew ?_
    with_reducible refine q_load 24 (.tmp 7) (.pointer (some ⟨D, 0, none⟩)) (wv p) rfl (by kernel_rfl) (by kernel_rfl) L7.out ?_
    with_reducible refine q_load 24 (.tmp 3) (.pointer (some ⟨w.heap.size, 0, none⟩)) (wv x) rfl (by kernel_rfl) (by kernel_rfl) L3.out ?_
    with_reducible refine q_load 24 (.tmp 4) (.pointer (some ⟨w.heap.size + 1, 0, none⟩)) (wv y) rfl (by kernel_rfl) (by kernel_rfl) L4.out ?_
    with_reducible refine q_load 24 (.tmp 5) (.pointer (some ⟨w.heap.size + 1 + 1, 0, none⟩)) (wv z) rfl (by kernel_rfl) (by kernel_rfl) L5.out ?_
    with_reducible refine q_call 31 #[wv x, wv y, wv z] (wv p) (by kernel_rfl) (fun _ => by kernel_rfl) H3C.out ?_
    with_reducible refine q_bin .neq 24 _ _ 24 (wv p) (wv p) (.bool false) rfl (by kernel_rfl) (by kernel_rfl) (by kernel_rfl) (negx _ _ _ _) (nb_same2 _) ?_
    with_reducible refine q_val (.bool false) (by kernel_rfl) (fun _ _ => by kernel_rfl) ?_
    with_reducible refine q_load 24 (.tmp 8) (.pointer (some ⟨E, 0, none⟩)) (wv q) rfl (by kernel_rfl) (by kernel_rfl) L8.out ?_
    with_reducible refine q_load 24 (.tmp 3) (.pointer (some ⟨w.heap.size, 0, none⟩)) (wv x) rfl (by kernel_rfl) (by kernel_rfl) L3.out ?_
    with_reducible refine q_load 24 (.tmp 4) (.pointer (some ⟨w.heap.size + 1, 0, none⟩)) (wv y) rfl (by kernel_rfl) (by kernel_rfl) L4.out ?_
    with_reducible refine q_load 24 (.tmp 5) (.pointer (some ⟨w.heap.size + 1 + 1, 0, none⟩)) (wv z) rfl (by kernel_rfl) (by kernel_rfl) L5.out ?_
    with_reducible refine q_call 32 #[wv x, wv y, wv z] (wv q) (by kernel_rfl) (fun _ => by kernel_rfl) H4C.out ?_
    with_reducible refine q_bin .neq 24 _ _ 24 (wv q) (wv q) (.bool false) rfl (by kernel_rfl) (by kernel_rfl) (by kernel_rfl) (negx _ _ _ _) (nb_same2 _) ?_
    with_reducible refine q_val (.bool false) (by kernel_rfl) (fun _ _ => by kernel_rfl) ?_
    with_reducible refine wpQuiet_nil ?_
    intro wz hC
    generalize hA : Act.put _ _ _ = A
    have hF : A = ({tmps := #[.agg (pw x), .agg (pw y), .agg (pw z), .pointer (some ⟨w.heap.size, 0, none⟩), .pointer (some ⟨w.heap.size + 1, 0, none⟩), .pointer (some ⟨w.heap.size + 1 + 1, 0, none⟩), .bool false, .pointer (some ⟨D, 0, none⟩), .pointer (some ⟨E, 0, none⟩), wv x, wv y, wv z, wv p, wv x, wv y, wv z, wv q, wv p, wv x, wv y, wv z, wv p, .bool false, .bool false, wv q, wv x, wv y, wv z, wv q, .bool false, .bool false, undef, undef, undef, undef, undef, undef, undef, undef, undef, undef, undef, undef, undef, undef, undef, undef, undef, undef, undef, undef, undef, undef, undef, undef, undef, undef, undef, undef], defers := []} : Act) := by subst hA; kernel_rfl
    clear hA
    subst hF
    have HC := Lib.hid hC; clear hC
    go_upto_region 4 with (fail)
    refine q_region (C := (CN w D E x y z p q)) HC.out ?_
    with_reducible refine q_load 24 (.tmp 5) (.pointer (some ⟨w.heap.size + 1 + 1, 0, none⟩)) (wv z) rfl (by kernel_rfl) (by kernel_rfl) L5.out ?_
    with_reducible refine q_val (.agg #[.int .u64 0, .int .u64 0, .int .u64 0, .int .u64 0]) (by kernel_rfl) (fun _ _ => by kernel_rfl) ?_
    with_reducible refine q_bin .eql 24 _ _ 24 (wv z) (.agg #[.int .u64 0, .int .u64 0, .int .u64 0, .int .u64 0]) (.bool false) rfl (by kernel_rfl) (by kernel_rfl) (by kernel_rfl) (fun w => eqzw_guard z _ _ w) (fun w => eqzw_run z false (decide_eq_false hz) w) ?_
    with_reducible refine q_val (.bool false) (by kernel_rfl) (fun _ _ => by kernel_rfl) ?_
    with_reducible refine q_skip (by kernel_rfl) ?_
    with_reducible refine q_skip (by kernel_rfl) ?_
    with_reducible refine q_skip (by kernel_rfl) ?_
    with_reducible refine q_val (.bool false) (by kernel_rfl) (fun _ _ => by kernel_rfl) ?_
    with_reducible refine q_val (.bool false) (by kernel_rfl) (fun _ _ => by kernel_rfl) ?_
    with_reducible refine q_skip (by kernel_rfl) ?_
    with_reducible refine q_skip (by kernel_rfl) ?_
    with_reducible refine q_skip (by kernel_rfl) ?_
    with_reducible refine q_val (.bool false) (by kernel_rfl) (fun _ _ => by kernel_rfl) ?_
    with_reducible refine q_val (.bool false) (by kernel_rfl) (fun _ _ => by kernel_rfl) ?_
    with_reducible refine q_load 24 (.tmp 7) (.pointer (some ⟨D, 0, none⟩)) (wv p) rfl (by kernel_rfl) (by kernel_rfl) L7.out ?_
    with_reducible refine q_load 24 (.tmp 5) (.pointer (some ⟨w.heap.size + 1 + 1, 0, none⟩)) (wv z) rfl (by kernel_rfl) (by kernel_rfl) L5.out ?_
    with_reducible refine q_call 22 #[wv p, wv z] (.int .i64 (-1)) (by kernel_rfl) (fun _ => by kernel_rfl) H5C.out ?_
    with_reducible refine q_bin .lss 3 _ _ 3 (.int .i64 (-1)) (.int .i64 0) (.bool true) rfl (by kernel_rfl) (by kernel_rfl) (by kernel_rfl) (lssg2 _ _) lssm2 ?_
    with_reducible refine q_val (.bool true) (by kernel_rfl) (fun _ _ => by kernel_rfl) ?_
    with_reducible refine q_load 24 (.tmp 8) (.pointer (some ⟨E, 0, none⟩)) (wv q) rfl (by kernel_rfl) (by kernel_rfl) L8.out ?_
    with_reducible refine q_load 24 (.tmp 5) (.pointer (some ⟨w.heap.size + 1 + 1, 0, none⟩)) (wv z) rfl (by kernel_rfl) (by kernel_rfl) L5.out ?_
    with_reducible refine q_call 22 #[wv q, wv z] (.int .i64 (-1)) (by kernel_rfl) (fun _ => by kernel_rfl) H6C.out ?_
    with_reducible refine q_bin .lss 3 _ _ 3 (.int .i64 (-1)) (.int .i64 0) (.bool true) rfl (by kernel_rfl) (by kernel_rfl) (by kernel_rfl) (lssg2 _ _) lssm2 ?_
    with_reducible refine q_val (.bool true) (by kernel_rfl) (fun _ _ => by kernel_rfl) ?_
    with_reducible refine q_val (.bool true) (by kernel_rfl) (fun _ _ => by kernel_rfl) ?_
    with_reducible refine q_val (.bool true) (by kernel_rfl) (fun _ _ => by kernel_rfl) ?_
    with_reducible refine q_call 19 #[] (.bool true) (by kernel_rfl) (fun _ => by kernel_rfl) KL.out ?_
    with_reducible refine q_val (.bool true) (by kernel_rfl) (fun _ _ => by kernel_rfl) ?_
    with_reducible refine q_val (.bool true) (by kernel_rfl) (fun _ _ => by kernel_rfl) ?_
    with_reducible refine wpQuiet_nil ?_
    intro wy hC
    have hB := hC.cm.old
    clear hC
    generalize hA : Act.put _ _ _ = A
    have h6 : A.tmps.getD 6 undef = Value.bool true := by subst hA; kernel_rfl
    have hd : A.defers = [] := by subst hA; kernel_rfl
    clear hA
    go_wp2
    (try simp only [Exit.inBlock, Exit.then])
    refine bodyPost_ret (v := .bool true) (by rw [results_tmp rfl _ _ _, h6]) hd ⟨rfl, hB⟩

theorem mods_any (x y z : Nat) (w : World) : Calls Tryd.prog 6 #[wv x, wv y, wv z] w fun e w' => e = .returned (.bool true) ∧ Below w.heap.size w w' := by
  by_cases hz : z % 115792089237316195423570985008687907853269984665640564039457584007913129639936 = 0
  · rw [show wv z = wv 0 from wv_congr (by rw [hz])]
    refine mods_none x y w (fun w => ?_) (fun w => ?_) (fun w => ?_) (fun w => ?_)
    · exact addmod_any x y 0 w
    · exact mulmod_any x y 0 w
    · exact addmod_ref x y 0 w
    · exact mulmod_ref x y 0 w
  · exact mods_some x y z _ _ hz w (fun w => addmod_any x y z w) (fun w => mulmod_any x y z w) (fun w => addmod_ref x y z w) (fun w => mulmod_ref x y z w)
      (fun w => by have h := cmp_any (remV ((x % 115792089237316195423570985008687907853269984665640564039457584007913129639936) + (y % 115792089237316195423570985008687907853269984665640564039457584007913129639936)) z) z w; rwa [rest_less2 _ z hz] at h) (fun w => by have h := cmp_any (remV ((x % 115792089237316195423570985008687907853269984665640564039457584007913129639936) * (y % 115792089237316195423570985008687907853269984665640564039457584007913129639936)) z) z w; rwa [rest_less2 _ z hz] at h)
end Go.Proofs.YthfadinocadhaaaDoor
namespace Go.Proofs.YthfadinocadhaaaDoor.wordMods
open Go.ChangeShapes Go.WideShapes Go.ChangeAt Go.RowKit

set_option maxRecDepth 100000 in
theorem contract (H : Type) (enc : TypeId × Value → H) (W : World) (base : Nat) (args : Array Value) (ds gs : List (DataW H)) (before : List MemPlace)
    (hval : ∀ (j : Nat) t v, Tryd.f6.params[j]? = some t → args[j]? = some v → Value.okWide Tryd.prog W .any base t v)
    (hW : DataW.Whole enc Tryd.prog Tryd.f6.params.toList Rows.wordModsSpec.vars false W args.toList ds gs before) :
    Calls Tryd.prog 6 args W fun e W' => ∃ v, e = .returned v ∧ Rows.wordModsSpec.post enc Tryd.prog Tryd.f6 false true false false W args v W' := by
  have hW' := hW
  obtain ⟨p, q, hA0, hV, rfl, hfz, hnd⟩ := hW
  have hA : DataW.TrodAll enc Tryd.prog W 0 (fun _ => true) true Tryd.f6.params.toList args.toList ds p := hA0
  rw [Tryd.params6] at hA hval
  obtain ⟨v0, vs0, d0, ds0, p0, q0, hargs, rfl, rfl, h0, r0⟩ := trodAll_cons hA
  obtain ⟨v1, vs1, d1, ds1, p1, q1, rfl, rfl, rfl, h1, r1⟩ := trodAll_cons r0
  obtain ⟨v2, vs2, d2, ds2, p2, q2, rfl, rfl, rfl, h2, r2⟩ := trodAll_cons r1
  obtain ⟨rfl, rfl, rfl⟩ := trodAll_nil r2
  obtain rfl : args = #[v0, v1, v2] := by cases args; simp_all
  obtain ⟨rfl, rfl⟩ := trodVars_none hV
  obtain ⟨x0, rfl⟩ := open_word (hval 0 24 v0 rfl rfl) h0
  obtain ⟨x1, rfl⟩ := open_word (hval 1 24 v1 rfl rfl) h1
  obtain ⟨x2, rfl⟩ := open_word (hval 2 24 v2 rfl rfl) h2
  clear hA0
  refine (mods_any x0 x1 x2 W).mono fun e W' ⟨he, hb⟩ => ?_
  subst he
  refine ⟨_, rfl, _, _, _, [], p0 ++ (p1 ++ (p2 ++ [])), [], hW', trodAll_cons_mk (shut_bool Tryd.underlying4 _) trodAll_mk0, trodAll_cons_mk (Below.trod laidOutF (by kernel_rfl) (of_decide_eq_true (by kernel_rfl)) h0 hb (fun x hx => hW'.lt x (by simp [hx]))) (trodAll_cons_mk (Below.trod laidOutF (by kernel_rfl) (of_decide_eq_true (by kernel_rfl)) h1 hb (fun x hx => hW'.lt x (by simp [hx]))) (trodAll_cons_mk (Below.trod laidOutF (by kernel_rfl) (of_decide_eq_true (by kernel_rfl)) h2 hb (fun x hx => hW'.lt x (by simp [hx]))) trodAll_mk0)), rfl, hb.frame _, fun h => by cases h⟩

theorem laid_met (os : Os) : laidMet Tryd.prog Rows.wordModsRow.laid ((laidWorld os).forCall (fun _ _ => 0) ⟨#[], #[.agg #[.int .u64 0, .int .u64 0, .int .u64 0, .int .u64 0], .agg #[.int .u64 0, .int .u64 0, .int .u64 0, .int .u64 0], .agg #[.int .u64 0, .int .u64 0, .int .u64 0, .int .u64 0]], []⟩).memory :=
  laidMet_of_run' 80 (by kernel_rfl) (by kernel_rfl)
theorem reads (os : Os) {H : Type} (enc : TypeId × Value → H) : ∃ places, DataW.whole enc Tryd.prog ((laidWorld os).forCall (fun _ _ => 0) ⟨#[], #[.agg #[.int .u64 0, .int .u64 0, .int .u64 0, .int .u64 0], .agg #[.int .u64 0, .int .u64 0, .int .u64 0, .int .u64 0], .agg #[.int .u64 0, .int .u64 0, .int .u64 0, .int .u64 0]], []⟩).memory Tryd.f6.params.toList Rows.wordModsSpec.vars false (#[.agg #[.int .u64 0, .int .u64 0, .int .u64 0, .int .u64 0], .agg #[.int .u64 0, .int .u64 0, .int .u64 0, .int .u64 0], .agg #[.int .u64 0, .int .u64 0, .int .u64 0, .int .u64 0]] : Array Value).toList 80 = some ([.agg [.lit (.int .u64 0), .lit (.int .u64 0), .lit (.int .u64 0), .lit (.int .u64 0)], .agg [.lit (.int .u64 0), .lit (.int .u64 0), .lit (.int .u64 0), .lit (.int .u64 0)], .agg [.lit (.int .u64 0), .lit (.int .u64 0), .lit (.int .u64 0), .lit (.int .u64 0)]], [], places) :=
  ⟨[], by kernel_rfl⟩

set_option maxRecDepth 100000 in
theorem lifted (os : Os) (started : os.Started) (H : Type) (enc : TypeId × Value → H) (F : Stop.Interp) :
    ReturnsInHanded {} Tryd.checked os 6 .any ((OpenSpec.ofChange Rows.wordModsSpec).preRow enc Tryd.prog Tryd.f6 Rows.wordModsRow.domain false Rows.wordModsRow.laid) (((OpenSpec.ofChange Rows.wordModsSpec).at F).post enc Tryd.prog Tryd.f6 false true false false) := by
  obtain ⟨places, hx⟩ := reads os enc
  refine returnsInHanded_of_row (C := Tryd.checked) (s := OpenSpec.ofChange Rows.wordModsSpec) ownF started (by kernel_rfl) Tryd.func6
    (witness_row_at (enc := enc) (C := Tryd.checked) false (laidWorld os) #[.agg #[.int .u64 0, .int .u64 0, .int .u64 0, .int .u64 0], .agg #[.int .u64 0, .int .u64 0, .int .u64 0, .int .u64 0], .agg #[.int .u64 0, .int .u64 0, .int .u64 0, .int .u64 0]] rfl (by kernel_rfl) (by kernel_rfl) (by kernel_rfl)
      (OpenSpec.preRow_of_cond 80 hx (by kernel_rfl) (fun k hk => by cases hk) (by kernel_rfl) (laid_met os))) ?_
  intro W base args ds gs before hval hW _ _ _ _ _ _
  exact contract H enc W base args ds gs before hval hW

theorem said : Rows.WordModsSaid :=
  OpenClaim.holds_of_cond 6 Tryd.f6 rfl rfl rfl rfl rfl rfl rfl ⟨rfl, rfl, rfl, rfl, rfl⟩ rfl rfl rfl rfl rfl (by kernel_rfl) Tryd.func6 (by kernel_rfl)
    (of_decide_eq_true (by kernel_rfl)) (by unfold Func.isWrapper; rw [if_neg (of_decide_eq_false (by kernel_rfl))]; exact ⟨rfl, rfl⟩)
    (fun os started H enc _ F => by rw [OpenClaim.pre_eq_preRow]; exact lifted os started H enc F)

/-- No parameter wants a stand-in; the program's own looks are off: what the card asks. -/
theorem plain (f : FuncId) (fn : Func) (hf : Tryd.pinned.checked.prog.funcNamed "bailiwick/bailiwicklaw01.WordMods" = some f) (hfn : Tryd.pinned.checked.prog.funcs[f]? = some fn) :
    false = Tryd.pinned.checked.prog.looks [] ∧ ∀ (j : Nat) t, fn.params[j]? = some t → Tryd.pinned.checked.prog.wantsStandIn t = false := by
  obtain rfl : f = 6 := Option.some.inj ((show Tryd.prog.funcNamed "bailiwick/bailiwicklaw01.WordMods" = some 6 by kernel_rfl).symm.trans hf) |>.symm
  obtain rfl : fn = Tryd.f6 := (Option.some.inj (Tryd.func6.symm.trans hfn)).symm
  refine ⟨by kernel_rfl, fun j t ht => ?_⟩
  rw [Tryd.params6] at ht
  have hm := Array.mem_of_getElem? ht
  simp only [List.mem_toArray, List.mem_cons, List.not_mem_nil, or_false] at hm
  rcases hm with rfl | rfl | rfl
  · exact (show Tryd.prog.wantsStandIn 24 = false by kernel_rfl)
  · exact (show Tryd.prog.wantsStandIn 24 = false by kernel_rfl)
  · exact (show Tryd.prog.wantsStandIn 24 = false by kernel_rfl)

/-- THE CARD. -/
theorem card : Rows.WordModsCardSaid :=
  Claim7.holds_tied_plain_at .later [] _ _ _ _ said (fun _ h => by cases h) (by kernel_rfl) (fun _ h => by cases h) wordMods_row_tie rfl ⟨rfl, rfl⟩ (by kernel_rfl) rfl plain (by kernel_rfl)
end Go.Proofs.YthfadinocadhaaaDoor.wordMods

/- What a law over bytes wants: bytes copied, slices of them by bounds, steps of a region that makes memory. -/
import Derived.Test.YtaopmcpihdcaiaaKBy
import Derived.Test.YtaopmcpihdcaiaaMany
import Derived.Test.YtaopmcpihdcaiaaQ
import Derived.Laws.Append
namespace Go.Proofs.Ytaopmcpihdcaiaa
open Go.RowKit

theorem arg_to {a : Option Addr} {n cap m : Nat} (hm : m ≤ n) (hc : n ≤ cap) : ∃ a', (∀ w, (Instr.sliceAt 22 (.slice a n cap) none (some (.int .i64 (m : Int))) none).run Try.prog w = .ok (.slice a' m cap) w) ∧ ∀ w f, ArgB w (.slice a n cap) n f → ArgB w (.slice a' m cap) m f := by
  have hsz : ∀ w, (sizeOf (Try.prog.elem 22)).run Try.prog w = .ok 1 w := fun w => by kernel_rfl
  refine ⟨if cap = 0 then a else a.map (·.add 0), fun w => ?_, fun w f h => ?_⟩
  · rw [run_sliceAt_slice (P := Try.prog) (w := w) 22 _ _ _ _ (by kernel_rfl), run_slice_h (P := Try.prog) w 22 a n cap (by kernel_rfl) .i64 m (by omega) (by omega), hsz]
    simp only [Result.andThen, sliced, Int.toNat_natCast, Nat.sub_zero, Nat.zero_mul]
  · have e : (if cap = 0 then a else a.map (·.add 0)) = a := by
      split
      · rfl
      · cases a with
        | none => rfl
        | some q => simp [Addr.add]
    rw [e]
    obtain ⟨a2, c2, h1, h2, h3, h4⟩ := h
    cases h1
    refine ⟨a, cap, rfl, by omega, h3, ?_⟩
    rcases h4 with h4 | ⟨b, o, h5, h6, h7⟩
    · exact .inl (by omega)
    · exact .inr ⟨b, o, h5, h6, fun j hj => h7 j (by omega)⟩
theorem arg_from {a : Option Addr} {n cap m : Nat} (hm : m ≤ n) (hc : n ≤ cap) : ∃ a', (∀ w, (Instr.sliceAt 22 (.slice a n cap) (some (.int .i64 (m : Int))) none none).run Try.prog w = .ok (.slice a' (n - m) (cap - m)) w) ∧ ∀ w f, ArgB w (.slice a n cap) n f → ArgB w (.slice a' (n - m) (cap - m)) (n - m) (fun j => f (m + j)) := by
  have hsz : ∀ w, (sizeOf (Try.prog.elem 22)).run Try.prog w = .ok 1 w := fun w => by kernel_rfl
  refine ⟨if cap = m then a else a.map (·.add (m * 1)), fun w => ?_, fun w f h => ?_⟩
  · rw [run_sliceAt_slice (P := Try.prog) (w := w) 22 _ _ _ _ (by kernel_rfl), run_slice_l (P := Try.prog) w 22 a n cap (by kernel_rfl) .i64 m (by omega) (by omega), hsz]
    simp only [Result.andThen, sliced, Int.toNat_natCast]
  · obtain ⟨a2, c2, h1, h2, h3, h4⟩ := h
    cases h1
    by_cases hcm : cap = m
    · rw [if_pos hcm]
      exact ⟨a, cap - m, rfl, by omega, fun h => by omega, .inl (by omega)⟩
    · rw [if_neg hcm]
      refine ⟨_, cap - m, rfl, by omega, fun h => ?_, ?_⟩
      · cases a with
        | none => have := h3 rfl; omega
        | some q => cases h
      · rcases h4 with h4 | ⟨b, o, h5, h6, h7⟩
        · exact .inl (by omega)
        · subst h5
          refine .inr ⟨b, o + m, by simp [Addr.add], h6, fun j hj => ?_⟩
          rw [Nat.add_assoc]
          exact h7 _ (by omega)
theorem arg_sub {a : Option Addr} {n cap l m : Nat} (hl : l + m ≤ n) (hc : n ≤ cap) : ∃ a', (∀ w, (Instr.sliceAt 22 (.slice a n cap) (some (.int .i64 (l : Int))) (some (.int .i64 ((l + m : Nat) : Int))) none).run Try.prog w = .ok (.slice a' m (cap - l)) w) ∧ ∀ w f, ArgB w (.slice a n cap) n f → ArgB w (.slice a' m (cap - l)) m (fun j => f (l + j)) := by
  have hsz : ∀ w, (sizeOf (Try.prog.elem 22)).run Try.prog w = .ok 1 w := fun w => by kernel_rfl
  refine ⟨if cap = l then a else a.map (·.add (l * 1)), fun w => ?_, fun w f h => ?_⟩
  · rw [run_sliceAt_slice (P := Try.prog) (w := w) 22 _ _ _ _ (by kernel_rfl), run_slice_lh (P := Try.prog) w 22 a n cap (by kernel_rfl) .i64 .i64 l ((l + m : Nat) : Int) (by omega) (by omega) (by omega), hsz]
    simp only [Result.andThen, sliced, Int.toNat_natCast]
    rw [show l + m - l = m by omega]
  · obtain ⟨a2, c2, h1, h2, h3, h4⟩ := h
    cases h1
    by_cases hcm : cap = l
    · rw [if_pos hcm]
      exact ⟨a, cap - l, rfl, by omega, fun h => by omega, .inl (by omega)⟩
    · rw [if_neg hcm]
      refine ⟨_, cap - l, rfl, by omega, fun h => ?_, ?_⟩
      · cases a with
        | none => have := h3 rfl; omega
        | some q => cases h
      · rcases h4 with h4 | ⟨b, o, h5, h6, h7⟩
        · exact .inl (by omega)
        · subst h5
          refine .inr ⟨b, o + l, by simp [Addr.add], h6, fun j hj => ?_⟩
          rw [Nat.add_assoc]
          exact h7 _ (by omega)
/-- The bytes copied: onto an empty list just made. -/
theorem copied {w : World} {D : Nat} {v : Value} {n : Nat} {f : Nat → Nat} (hD : D < w.heap.size) (h : ArgB w v n f) (hn : n ≤ 140737488355328) : ∃ g c w', (Builtin.append_ #[22, 22] 22 #[.slice (some ⟨D, 0, none⟩) 0 0, v]).run Try.prog w = .ok (.slice (some ⟨g, 0, none⟩) n c) w' ∧ n ≤ c ∧ g < w'.heap.size ∧ (0 < n → w.heap.size ≤ g) ∧ (∀ j, j < n → w'.cell? ⟨g, 0 + j, none⟩ = some (.int .u8 (f j : Nat))) ∧ Below w.heap.size w w' := by
  obtain ⟨i0, hi, hz0, hz1, hz2⟩ := info_partsB info8
  obtain ⟨a, cap, rfl, hc, hn0, hr⟩ := h
  rcases Nat.eq_zero_or_pos n with rfl | h0
  · refine ⟨D, 0, w, ?_, Nat.le_refl _, hD, fun h => by omega, fun j hj => by omega, Below.refl _ _⟩
    cases a with
    | none =>
      obtain rfl := hn0 rfl
      simp [Builtin.append_, run_underlying Try.underlying22, sizeOf, typeInfo, hi, go_sem]
    | some q => simp [Builtin.append_, run_underlying Try.underlying22, sizeOf, typeInfo, hi, go_sem]
  · rcases hr with hr | ⟨b, o, rfl, hb, hcell⟩
    · omega
    · have hr := run_append_grow (P := Try.prog) (w := w) 22 22 5 i0 (.int .u8 0) Try.underlying22 hi hz0 ⟨D, 0, none⟩ 0 0 [] (by simp) (fun j v hj => by simp at hj) ⟨b, o, none⟩ n cap (p8 f n) (by rw [p8_len, hz1, Nat.mul_one]) (p8_news (.inr ⟨b, o, rfl, hb, hcell⟩)) (by omega) (by omega) (by rw [Nat.zero_add, nextslicecap_zero h0, hz2]; omega)
      rw [Nat.zero_add] at hr
      refine ⟨_, _, _, hr, ?_, by simp, fun _ => by simp, fun j hj => ?_, (Below.refl _ _).drew.alloc (Nat.le_refl _) _⟩
      · exact grownCap_ge _ _ _ _
      · refine (cell_of_row _ _ _ _ _ _ (heap_alloc_new w.drew _)).trans ?_
        rw [Nat.zero_add, show ([] : List Value).toArray ++ (p8 f n).toArray = (p8 f n).toArray by simp, Array.getElem?_append_left (by rw [List.size_toArray, p8_len]; exact hj), List.getElem?_toArray]
        exact p8_at f n j hj
theorem run_pick {P : Program} {a : Act} {o : Oper} {w : World} (c x y : Operand) (b : Bool) (r : Value) (ho : o.op = .pick c x y) (hc : a.eval c = .bool b) (hr : (if b = true then a.eval x else a.eval y) = r) : (execOp a.eval o).run P w = .ok (.value r) w := by
  unfold execOp
  rw [ho]
  simp [asBool, hc, hr, Sem.run_pure]
theorem arr_litT (t : Array Value) : t = ((List.range t.size).map fun i => t.getD i undef).toArray := by
  apply Array.ext
  · simp
  · intro i h1 h2
    simp [h1]
def SlB (n : Nat) (f : Nat → Nat) (u : Value) (wx : World) : Prop := ∃ g c, u = .slice (some ⟨g, 0, none⟩) n c ∧ n ≤ c ∧ g < wx.heap.size ∧ ∀ j, j < n → wx.cell? ⟨g, 0 + j, none⟩ = some (.int .u8 (f j : Nat))
theorem SlB.below {n : Nat} {f : Nat → Nat} {u : Value} {wa wb : World} (hb : Below wa.heap.size wa wb) (h : SlB n f u wa) : SlB n f u wb := by
  obtain ⟨g, c, h1, h2, h3, h4⟩ := h
  exact ⟨g, c, h1, h2, Nat.lt_of_lt_of_le h3 hb.size, fun j hj => (hb.cell (p := ⟨g, 0 + j, none⟩) h3).trans (h4 j hj)⟩
def EmB (u : Value) (wx : World) : Prop := ∃ D, u = .slice (some ⟨D, 0, none⟩) 0 0 ∧ D < wx.heap.size
theorem EmB.below {u : Value} {wa wb : World} (hb : Below wa.heap.size wa wb) (h : EmB u wa) : EmB u wb := by
  obtain ⟨D, h1, h2⟩ := h
  exact ⟨D, h1, Nat.lt_of_lt_of_le h2 hb.size⟩
theorem run_app {a : Act} {o : Oper} {w w' : World} (s y : Operand) (vs vy v' : Value) (ho : o.op = .call { callee := .builtin .append, args := #[s, y], argTypes := #[22, 22] }) (hty : o.type = 22) (hs : a.eval s = vs) (hy : a.eval y = vy)
    (hr : (Builtin.append_ #[22, 22] 22 #[vs, vy]).run Try.prog w = .ok v' w') : (execOp a.eval o).run Try.prog w = .ok (.value v') w' := by
  unfold execOp
  simp only [ho, hty, resolve, invoke, builtin, Sem.run_bind, Sem.run_pure, Result.andThen_ok, List.map_toArray, List.map_cons, List.map_nil, hs, hy, hr]
section
variable {P : Program} {ops : Array Oper} {Q : Exit → Act → World → Prop}
variable {w : World} {L : List Sp} {ps : List Nat} {J : Nat → Array Value}
/-- A step that makes memory, its answer not known by itself. -/
theorem mm_grow {k d : Nat} {o : Oper} {a : Act} {wx : World} (v : Value) (w' : World) (g : Value → World → Prop) (hd : o.dst = some d) (hw : Region.wanted o (yielded ops a.tmps) = true) (hr : (execOp a.eval o).run P wx = .ok (.value v) w') (hb : Below wx.heap.size wx w') (hg : g v w')
    (hC : CM w ps (slots a) wx) (hps : ps.all (· != d) = true) (hsz : d < a.tmps.size) (hv : spAt L k = .own d g) : StepU P ops Q (CM w ps) (PhiN w L J) (RNM w.heap.size ps J) k o a wx :=
  uu_new v hw hr (by rw [hd]; exact ⟨hC.1.trans (hb.mono hC.1.size), hC.2.put (ps_other hps) hb.size⟩) (by rw [hd]; show (spAt L k).at_ w.heap.size J _ _; rw [hv]; show g _ _; rw [slots_put _ _ _ hsz]; exact hg) (.inl hb)
end
/-- Numbers of 16 bits among the arguments of a call. -/
def Arg16 (w : World) (v : Value) (n : Nat) (g : Nat → Nat) : Prop := ∃ (a : Option Addr) (cap : Nat), v = .slice a n cap ∧ n ≤ cap ∧ (n = 0 ∨ ∃ b o, a = some ⟨b, o, none⟩ ∧ b < w.heap.size ∧ ∀ j, j < n → w.cell? ⟨b, o + j, none⟩ = some (.int .u16 (g j : Nat)))
end Go.Proofs.Ytaopmcpihdcaiaa

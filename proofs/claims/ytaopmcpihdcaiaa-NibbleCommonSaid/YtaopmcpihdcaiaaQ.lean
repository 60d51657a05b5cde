/- Regions that draw their order, whose operations read, reckon, and call functions that make memory: one walk of the text's order, an operation a law, the frame never written out. No program is named here. -/
import Derived.Deep.Quiet
import Derived.Deep.QuietTactic
import Derived.WalkKit
namespace Go.Proofs.Ytaopmcpihdcaiaa
open Go.RowKit

section
variable {P : Program} {ops : Array Oper} {C : World → Prop} {Q : Act → Prop} {a : Act} {o : Oper} {rest : List Oper}

/-- An operation that is passed over. -/
theorem q_skip (hw : Region.wanted o (yielded ops a.tmps) = false) (h : wpQuiet P ops C Q rest (a.put o.dst undef)) : wpQuiet P ops C Q (o :: rest) a :=
  wpQuiet_step fun K hK => by rw [if_neg (by rw [hw]; exact Bool.false_ne_true)]; exact hK _ h

/-- An operation that is wanted: one value, in every world of the class. -/
theorem q_step (v : Value) (hw : Region.wanted o (yielded ops a.tmps) = true) (hv : ∀ w, C w → o.quietAt P a C w v) (h : wpQuiet P ops C Q rest (a.put o.dst v)) : wpQuiet P ops C Q (o :: rest) a :=
  wpQuiet_step fun K hK => by rw [if_pos hw]; exact ⟨v, hv, hK _ h⟩

/-- One that leaves the world as it is. -/
theorem q_val (v : Value) (hw : Region.wanted o (yielded ops a.tmps) = true) (hv : ∀ w, C w → (execOp a.eval o).run P w = .ok (.value v) w) (h : wpQuiet P ops C Q rest (a.put o.dst v)) : wpQuiet P ops C Q (o :: rest) a :=
  q_step v hw (fun w hC => by unfold Oper.quietAt; rw [hv w hC]; exact ⟨rfl, rfl⟩) h

/-- A load. -/
theorem q_load (T : TypeId) (x : Operand) (p v : Value) (ho : o.op = .load T x) (hw : Region.wanted o (yielded ops a.tmps) = true) (hp : a.eval x = p)
    (hv : ∀ w, C w → (Instr.loadAt T p).run P w = .ok v w) (h : wpQuiet P ops C Q rest (a.put o.dst v)) : wpQuiet P ops C Q (o :: rest) a :=
  q_val v hw (fun w hC => by
    unfold execOp
    rw [ho]
    simp only [hp, Sem.run_bind, hv w hC, Result.andThen_ok, Sem.run_pure]) h

/-- A call. -/
theorem q_call (f : FuncId) (args : Array Value) (v : Value) (hw : Region.wanted o (yielded ops a.tmps) = true) (he : ∀ w, (execOp a.eval o).run P w = .ok (.enter f args) w)
    (hv : ∀ w, C w → Calls P f args w fun e w' => e = .returned v ∧ C w') (h : wpQuiet P ops C Q rest (a.put o.dst v)) : wpQuiet P ops C Q (o :: rest) a :=
  q_step v hw (fun w hC => by unfold Oper.quietAt; rw [he w]; exact ⟨rfl, hv w hC⟩) h

/-- A comparison. -/
theorem q_bin (op : BinOp) (T : TypeId) (x y : Operand) (t : TypeId) (u v r : Value) (ho : o.op = .binOp op T x y t) (hw : Region.wanted o (yielded ops a.tmps) = true) (hx : a.eval x = u) (hy : a.eval y = v)
    (hg : ∀ w, (eqGuard op T x y u v).run P w = .ok () w) (hb : ∀ w, (binOp op T u v).run P w = .ok r w) (h : wpQuiet P ops C Q rest (a.put o.dst r)) : wpQuiet P ops C Q (o :: rest) a :=
  q_val r hw (fun w hC => by
    unfold execOp
    rw [ho]
    simp only [hx, hy, Sem.run_bind, hg w, hb w, Result.andThen_ok, Sem.run_pure]) h
end
end Go.Proofs.Ytaopmcpihdcaiaa

/- Two arrays of integers compared. No program is named here. -/
import Derived.Test.YtcmpnnfnkcmpcaaDoorRArr
namespace Go.Proofs.YtcmpnnfnkcmpcaaDoor
open Go.RowKit

/-- Whether the first n are the same. -/
def eqF (n : Nat) (f g : Nat → Int) : Bool := (List.range n).all fun i => f i == g i
theorem eqF_iff {n : Nat} {f g : Nat → Int} : eqF n f g = true ↔ ∀ i, i < n → f i = g i := by simp [eqF]
theorem eqF_same (n : Nat) (f : Nat → Int) : eqF n f f = true := eqF_iff.2 fun _ _ => rfl
section
variable {P : Program}
theorem forIn_all (w : World) (q : Nat → Bool) (body : Nat → Option Bool × Unit → Sem (ForInStep (Option Bool × Unit))) : ∀ l : List Nat,
    (∀ i, i ∈ l → (body i (none, ())).run P w = .ok (if q i then .yield (none, ()) else .done (some false, ())) w) →
    (forIn l (none, ()) body).run P w = .ok (if l.all q then (none, ()) else (some false, ())) w
  | [], _ => by simp [Sem.run_pure]
  | a :: l, h => by
    have h1 := h a (by simp)
    have h2 := forIn_all w q body l (fun i hi => h i (by simp [hi]))
    rw [List.forIn_cons, Sem.run_bind, h1, Result.andThen_ok]
    cases hq : q a with
    | true =>
      simp only [hq, if_true, List.all_cons, Bool.true_and]
      exact h2
    | false =>
      simp [hq, Sem.run_pure]
theorem eqi_ar (n : Nat) (T E : TypeId) (k : IntKind) (f g : Nat → Int) (d : Nat) (w : World) (hT : P.underlying T = some (.array n E)) (hE : P.underlying E = some (.int k)) (hs : (sizeOf E).run P w = .ok 1 w) (ha : (isAgg E).run P w = .ok false w) :
    (Op.equalIn (d + 2) T (.agg (ar k n f)) (.agg (ar k n g))).run P w = .ok (eqF n f g) w := by
  rw [Op.equalIn]
  simp only [Sem.run_bind, run_underlying hT, Result.andThen_ok, hs]
  simp only [Std.Legacy.Range.forIn_eq_forIn_range', Std.Legacy.Range.size, Nat.sub_zero, Nat.add_sub_cancel, Nat.div_one]
  rw [forIn_all w (fun i => f i == g i) _ (List.range' 0 n) (fun i hi => ?_)]
  · have hd : (List.range' 0 n).all (fun i => f i == g i) = eqF n f g := by
      rw [Bool.eq_iff_iff, eqF_iff]
      simp [List.mem_range']
    rw [hd]
    cases eqF n f g <;> simp [Result.andThen, Sem.run_pure]
  · have hin : i < n := by
      rw [List.mem_range'] at hi
      omega
    have p1 := ar_at k n f i hin
    have p2 := ar_at k n g i hin
    have e : (Op.equalIn (d + 1) E (.int k (f i)) (.int k (g i))).run P w = .ok (f i == g i) w := by
      rw [Op.equalIn]
      simp [Sem.run_bind, run_underlying hE, Sem.run_pure]
    simp only [Sem.run_bind, part, ha, Nat.mul_one, p1, p2, Result.andThen_ok, Bool.false_eq_true, if_false]
    simp [Sem.run_pure, ha, e]
    by_cases hq : f i = g i <;> simp [hq]
theorem eqb_ar (n : Nat) (T E : TypeId) (k : IntKind) (f g : Nat → Int) (w : World) (hT : P.underlying T = some (.array n E)) (hE : P.underlying E = some (.int k)) (hs : (sizeOf E).run P w = .ok 1 w) (ha : (isAgg E).run P w = .ok false w) :
    (binOp BinOp.eql T (.agg (ar k n f)) (.agg (ar k n g))).run P w = .ok (.bool (eqF n f g)) w := by
  have h := eqi_ar n T E k f g 9998 w hT hE hs ha
  simp [binOp, Op.equal, Op.maxDepth, h]
theorem neb_ar (n : Nat) (T E : TypeId) (k : IntKind) (f g : Nat → Int) (w : World) (hT : P.underlying T = some (.array n E)) (hE : P.underlying E = some (.int k)) (hs : (sizeOf E).run P w = .ok 1 w) (ha : (isAgg E).run P w = .ok false w) :
    (binOp BinOp.neq T (.agg (ar k n f)) (.agg (ar k n g))).run P w = .ok (.bool (!eqF n f g)) w := by
  have h := eqi_ar n T E k f g 9998 w hT hE hs ha
  simp [binOp, Op.equal, Op.maxDepth, h]
theorem load_ar {g n : Nat} {k : IntKind} {T : TypeId} {h : Nat → Int} {d : TypeDesc} {w : World} (hg : w.heap[g]? = some (.cells (ar k n h) T (0, 0))) (hu : P.underlying T = some d) (hd : (match d with | .struct _ | .array _ _ => true | _ => false) = true) (hi : (P.info? T).map (·.size) = some n) : (Instr.loadAt T (.pointer (some ⟨g, 0, none⟩))).run P w = .ok (.agg (ar k n h)) w := by
  simp only [Instr.loadAt, Instr.sureAddr, Sem.run_bind, Sem.run_pure, Result.andThen_ok, run_loadVar_row w g T T (ar k n h) (0, 0) _ hg hu hd (by rw [ar_size]; exact hi)]
end
end Go.Proofs.YtcmpnnfnkcmpcaaDoor

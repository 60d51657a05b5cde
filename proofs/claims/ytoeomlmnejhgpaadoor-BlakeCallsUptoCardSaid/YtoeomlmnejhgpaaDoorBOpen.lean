/- Arrays of integers and the struct among the arguments, opened; what a bound on what is read says; a witness's world with the tables laid. -/
import Derived.Test.YtoeomlmnejhgpaaDoorCards
import Derived.Test.YtoeomlmnejhgpaaDoorTie
import Derived.Test.YtoeomlmnejhgpaaDoorBLaid
import Derived.Test.YtoeomlmnejhgpaaDoorBIn
import Derived.WalkKit
import Derived.ProofKit
import Derived.OpenShut
import Derived.ChangeSlices
import Derived.Deep.DeepHandedRow
namespace Go.Proofs.YtoeomlmnejhgpaaDoor
open Go.ChangeShapes Go.WideShapes Go.ChangeAt Go.RowKit

theorem ownF : ownKnob Tryd.prog.godebug = none := by kernel_rfl
theorem laidOutF : laidOutB Tryd.prog = true := by kernel_rfl
theorem cellsU8 : Tryd.prog.cellsOf 5 = 1 := by kernel_rfl
theorem ints_of_arr {H : Type} {enc : TypeId × Value → H} {P : Program} {w : World} {base : Nat} {sp : Nat → Bool} {held : Bool} {fuel : Nat} {t e : TypeId} {n : Nat} {k : IntKind} {cs : List Value} {d : DataW H} {p : List MemPlace}
    (ht : P.underlying t = some (.array n e)) (he : P.underlying e = some (.int k)) (hce : P.cellsOf e = 1)
    (h : DataW.trod enc P w base sp held fuel t cs = some (d, p)) : ∀ i, i < n → ∃ z, cs[i]? = some (.int k z) ∧ (Lit.int k z).wf = true := by
  cases fuel with
  | zero => simp [DataW.trod] at h
  | succ fuel =>
    simp only [DataW.trod, ht, hce, Nat.mul_one] at h
    split at h
    · rename_i hl
      obtain ⟨xs, hm, hx⟩ := Option.map_eq_some_iff.1 h
      intro i hi
      obtain ⟨b, hb, hf⟩ := Lib.mapM_at hm i i (by simp [hi])
      obtain ⟨z, hc, -, hw⟩ := DataW.trod_int he hf
      refine ⟨z, ?_, hw⟩
      have := congrArg (·[0]?) hc
      simpa [List.getElem?_take, List.getElem?_drop] using this
    · cases h
set_option maxRecDepth 100000 in
/-- AN ARRAY OF INTEGERS AMONG THE ARGUMENTS. -/
theorem open_arr {H : Type} {enc : TypeId × Value → H} {W : World} {base b2 : Nat} {sp : Nat → Bool} {hd : Bool} {v : Value} {d : DataW H} {ps : List MemPlace} {t e : TypeId} {n : Nat} {k : IntKind}
    (ht : Tryd.prog.underlying t = some (.array n e)) (he : Tryd.prog.underlying e = some (.int k)) (hce : Tryd.prog.cellsOf e = 1) (hct : Tryd.prog.cellsOf t = n)
    (hv : Value.okWide Tryd.prog W .any base t v) (h : DataW.Trod enc Tryd.prog W b2 sp hd t v d ps) : ∃ f : Nat → Int, v = .agg (ar k n f) ∧ ∀ i, i < n → (Lit.int k (f i)).wf = true := by
  obtain ⟨cs, rfl, hsz, _⟩ : ∃ cs, v = .agg cs ∧ cs.size = Tryd.prog.cellsOf t ∧ Row.okWide Tryd.prog W .any base t cs := by
    simpa [Value.okWide, ht] using hv
  rw [hct] at hsz
  obtain ⟨fuel, hf⟩ := h
  have h1 := ints_of_arr ht he hce hf
  refine ⟨fun i => if hi : i < n then Classical.choose (h1 i hi) else 0, ?_, fun i hi => ?_⟩
  · congr 1
    apply Array.ext
    · rw [hsz, ar_size]
    · intro i a b
      have hi : i < n := by omega
      have h2 := (Classical.choose_spec (h1 i hi)).1
      have h3 : cs[i]? = some (.int k (Classical.choose (h1 i hi))) := by simpa [Value.cells] using h2
      have h4 := ar_at k n (fun i => if hi : i < n then Classical.choose (h1 i hi) else 0) i hi
      rw [Array.getElem?_eq_getElem b] at h4
      rw [Array.getElem?_eq_getElem a] at h3
      have h5 := Option.some.inj h3
      have h6 := Option.some.inj h4
      rw [h5, h6]
      simp [hi]
  · simp only [hi, dif_pos]
    exact (Classical.choose_spec (h1 i hi)).2
theorem bulk_one {H : Type} (d : DataW H) : 1 ≤ Rows.uptoBulk d := by
  cases d with
  | lit l => cases l <;> simp [Rows.uptoBulk]
  | nil => simp [Rows.uptoBulk]
  | ptr d => simp [Rows.uptoBulk]
  | slice elems spare => simp [Rows.uptoBulk]
  | agg parts => simp [Rows.uptoBulk]
  | iface t d => simp [Rows.uptoBulk]
  | map entries => simp [Rows.uptoBulk]
  | held h => simp [Rows.uptoBulk]
theorem bulk_len {H : Type} (l : List (DataW H)) : l.length ≤ Rows.uptoBulkAll l := by
  induction l with
  | nil => simp [Rows.uptoBulkAll]
  | cons x r ih => have := bulk_one x; simp only [Rows.uptoBulkAll, List.length_cons]; omega
theorem bulk_in {H : Type} {d : DataW H} {l : List (DataW H)} (h : d ∈ l) : Rows.uptoBulk d ≤ Rows.uptoBulkAll l := by
  induction l with
  | nil => cases h
  | cons x r ih =>
    simp only [Rows.uptoBulkAll]
    rcases List.mem_cons.1 h with e | e
    · subst e; omega
    · have := ih e; omega
/-- WHAT THE BOUND SAYS of a list. -/
theorem bulk_list {H : Type} {ds : List (DataW H)} (hk : Rows.uptoSmall H ds = true) {d : DataW H} (hd : d ∈ ds) {n : Nat} (hn : n = 0 ∨ ∃ l s, d = .slice l s ∧ l.length = n) : n ≤ 1048576 := by
  rcases hn with rfl | ⟨l, s, rfl, rfl⟩
  · omega
  · have h1 : Rows.uptoBulkAll ds ≤ 1048576 := of_decide_eq_true hk
    have h2 := bulk_in hd
    have h3 := bulk_len l
    simp only [Rows.uptoBulk] at h2
    omega
/-- The cells of a table as a row lists it. -/
def valsIn : DataW Unit → List Value
  | .agg l => l.map fun x => match x with
    | .lit (.int k z) => Value.int k z
    | _ => undef
  | _ => []
def valsOf : DataW Unit → Array Value
  | .agg l => (l.flatMap fun x => match x with
    | .lit (.int k z) => [Value.int k z]
    | y => valsIn y).toArray
  | _ => #[]
def layAt (w : World) (b : Nat) (vs : Array Value) : World := { w with heap := w.heap.modify b fun
      | .cells _ t frozen => .cells vs t frozen
      | o => o }
/-- A WORLD FOR THE WITNESS: the settled one, the table holding what its initialiser lays. -/
noncomputable def laidWorld (os : Os) : World :=
  layAt (World.holding Tryd.prog os ⟨#[], #[], []⟩) 0 (valsOf Rows.laid_bailiwick_blake_places)
theorem cellsU64 : Tryd.prog.cellsOf 34 = 1 := by kernel_rfl
theorem wf_u64 {z : Int} (h : (Lit.int .u64 z).wf = true) : 0 ≤ z ∧ z < 18446744073709551616 := by
  simp [Lit.wf, IntKind.min, IntKind.max, IntKind.signed, IntKind.bits] at h
  omega
theorem wf_u32 {z : Int} (h : (Lit.int .u32 z).wf = true) : 0 ≤ z ∧ z < 4294967296 := by
  simp [Lit.wf, IntKind.min, IntKind.max, IntKind.signed, IntKind.bits] at h
  omega
set_option maxRecDepth 100000 in
/-- THE STRUCT AMONG THE ARGUMENTS. -/
theorem open_in {H : Type} {enc : TypeId × Value → H} {W : World} {base b2 : Nat} {sp : Nat → Bool} {hd : Bool} {v : Value} {d : DataW H} {ps : List MemPlace}
    (hv : Value.okWide Tryd.prog W .any base 58 v) (h : DataW.Trod enc Tryd.prog W b2 sp hd 58 v d ps) : ∃ (r : Nat) (h m t : Nat → Int) (last : Bool), v = .agg (inr r h m t last) ∧ r < 4294967296 ∧ ∀ j, j < 16 → 0 ≤ m j ∧ m j < 18446744073709551616 := by
  obtain ⟨cs, rfl, hsz⟩ := okWide_struct Tryd.underlying58 hv
  rw [show Tryd.prog.cellsOf 58 = 28 by kernel_rfl] at hsz
  obtain ⟨fuel, hf⟩ := h
  obtain ⟨xs, n, -, -, -, hlen, hx⟩ := DataW.trod_struct Tryd.underlying58 hf
  have get : ∀ i, i < 5 → ∃ y, xs[i]? = some y := fun i hi => ⟨xs[i]'(by rw [hlen]; exact hi), List.getElem?_eq_getElem _⟩
  obtain ⟨y0, e0⟩ := get 0 (by omega)
  obtain ⟨y1, e1⟩ := get 1 (by omega)
  obtain ⟨y2, e2⟩ := get 2 (by omega)
  obtain ⟨y3, e3⟩ := get 3 (by omega)
  obtain ⟨y4, e4⟩ := get 4 (by omega)
  have h0 := (hx 0 _ rfl).trans e0
  have h1 := (hx 1 _ rfl).trans e1
  have h2 := (hx 2 _ rfl).trans e2
  have h3 := (hx 3 _ rfl).trans e3
  have h4 := (hx 4 _ rfl).trans e4
  obtain ⟨z0, c0, -, w0⟩ := DataW.trod_int Tryd.underlying46 h0
  have i1 := ints_of_arr Tryd.underlying54 Tryd.underlying34 cellsU64 h1
  have i2 := ints_of_arr Tryd.underlying55 Tryd.underlying34 cellsU64 h2
  have i3 := ints_of_arr Tryd.underlying56 Tryd.underlying34 cellsU64 h3
  obtain ⟨b4, c4, -⟩ := DataW.trod_bool Tryd.underlying4 h4
  have q0 : cs[0]? = some (.int .u32 z0) := by
    have := congrArg (·[0]?) c0
    simpa [Value.cells, List.getElem?_take, show Tryd.prog.cellsOf 46 = 1 by kernel_rfl] using this
  have q1 : ∀ j, j < 8 → ∃ z, cs[1 + j]? = some (.int .u64 z) := fun j hj => by
    obtain ⟨z, hz, -⟩ := i1 j hj
    refine ⟨z, ?_⟩
    simpa [Value.cells, List.getElem?_take, List.getElem?_drop, show Tryd.prog.cellsOf 54 = 8 by kernel_rfl, hj, Nat.add_comm 1 j] using hz
  have q2 : ∀ j, j < 16 → ∃ z, cs[9 + j]? = some (.int .u64 z) ∧ 0 ≤ z ∧ z < 18446744073709551616 := fun j hj => by
    obtain ⟨z, hz, hw⟩ := i2 j hj
    refine ⟨z, ?_, wf_u64 hw⟩
    simpa [Value.cells, List.getElem?_take, List.getElem?_drop, show Tryd.prog.cellsOf 55 = 16 by kernel_rfl, hj] using hz
  have q3 : ∀ j, j < 2 → ∃ z, cs[25 + j]? = some (.int .u64 z) := fun j hj => by
    obtain ⟨z, hz, -⟩ := i3 j hj
    refine ⟨z, ?_⟩
    simpa [Value.cells, List.getElem?_take, List.getElem?_drop, show Tryd.prog.cellsOf 56 = 2 by kernel_rfl, hj] using hz
  have q4 : cs[27]? = some (.bool b4) := by
    have := congrArg (·[0]?) c4
    simpa [Value.cells, List.getElem?_take, List.getElem?_drop, show Tryd.prog.cellsOf 4 = 1 by kernel_rfl] using this
  have wz := wf_u32 w0
  refine ⟨z0.toNat, fun j => if hj : j < 8 then Classical.choose (q1 j hj) else 0, fun j => if hj : j < 16 then Classical.choose (q2 j hj) else 0, fun j => if hj : j < 2 then Classical.choose (q3 j hj) else 0, b4, ?_, by omega, fun j hj => ?_⟩
  · congr 1
    apply Array.ext
    · rw [hsz, inr_size]
    · intro i a b
      have hi : i < 28 := by omega
      have hr := inr_at z0.toNat (fun j => if hj : j < 8 then Classical.choose (q1 j hj) else 0) (fun j => if hj : j < 16 then Classical.choose (q2 j hj) else 0) (fun j => if hj : j < 2 then Classical.choose (q3 j hj) else 0) b4 i hi
      rw [Array.getElem?_eq_getElem b] at hr
      rw [Option.some.inj hr]
      apply Option.some.inj
      rw [← Array.getElem?_eq_getElem a]
      unfold inV
      by_cases k0 : i = 0
      · rw [if_pos k0, k0, q0, Int.toNat_of_nonneg wz.1]
      · rw [if_neg k0]
        by_cases k1 : i < 9
        · rw [if_pos k1, show cs[i]? = cs[1 + (i - 1)]? by congr 1; omega]
          simp only [dif_pos (show i - 1 < 8 by omega)]
          exact Classical.choose_spec (q1 (i - 1) (by omega))
        · rw [if_neg k1]
          by_cases k2 : i < 25
          · rw [if_pos k2, show cs[i]? = cs[9 + (i - 9)]? by congr 1; omega]
            simp only [dif_pos (show i - 9 < 16 by omega)]
            exact (Classical.choose_spec (q2 (i - 9) (by omega))).1
          · rw [if_neg k2]
            by_cases k3 : i < 27
            · rw [if_pos k3, show cs[i]? = cs[25 + (i - 25)]? by congr 1; omega]
              simp only [dif_pos (show i - 25 < 2 by omega)]
              exact Classical.choose_spec (q3 (i - 25) (by omega))
            · rw [if_neg k3, show i = 27 by omega]
              exact q4
  · simp only [dif_pos hj]
    exact (Classical.choose_spec (q2 j hj)).2
/-- Whole numbers among the arguments. -/
theorem open_num {H : Type} {enc : TypeId × Value → H} {W : World} {b2 : Nat} {sp : Nat → Bool} {hd : Bool} {v : Value} {d : DataW H} {ps : List MemPlace} {t : TypeId} {k : IntKind} (ht : Tryd.prog.underlying t = some (.int k)) (h : DataW.Trod enc Tryd.prog W b2 sp hd t v d ps) : ∃ z, v.cells.toList = [.int k z] ∧ (Lit.int k z).wf = true := by
  obtain ⟨fuel, hf⟩ := h
  obtain ⟨z, hc, -, hw⟩ := DataW.trod_int ht hf
  exact ⟨z, hc, hw⟩
end Go.Proofs.YtoeomlmnejhgpaaDoor

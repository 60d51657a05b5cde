/- BLAKE2b: what F is given, as a struct: its fields read; equality of eight numbers. -/
import Derived.Test.YtoeomlmnejhgpaaDoorBRF
import Derived.Test.YtoeomlmnejhgpaaDoorQ
namespace Go.Proofs.YtoeomlmnejhgpaaDoor
open Go.RowKit

def inV (r : Nat) (h m t : Nat → Int) (last : Bool) (j : Nat) : Value := if j = 0 then .int .u32 r else if j < 9 then .int .u64 (h (j - 1)) else if j < 25 then .int .u64 (m (j - 9)) else if j < 27 then .int .u64 (t (j - 25)) else .bool last
/-- The struct's cells. -/
def inr (r : Nat) (h m t : Nat → Int) (last : Bool) : Array Value := ((List.range 28).map (inV r h m t last)).toArray
theorem inr_at (r : Nat) (h m t : Nat → Int) (last : Bool) (j : Nat) (hj : j < 28) : (inr r h m t last)[j]? = some (inV r h m t last j) := by simp [inr, hj]
theorem inr_size (r : Nat) (h m t : Nat → Int) (last : Bool) : (inr r h m t last).size = 28 := by simp [inr]
theorem inr_set0 (r q : Nat) (h m t : Nat → Int) (last : Bool) : (inr r h m t last).setIfInBounds 0 (.int .u32 q) = inr q h m t last := by
  apply Array.ext
  · simp [inr_size]
  · intro i h1 h2
    have hi : i < 28 := by rw [inr_size] at h2; exact h2
    have e1 := inr_at r h m t last i hi
    have e2 := inr_at q h m t last i hi
    rw [Array.getElem?_eq_getElem h2] at e2
    rw [Option.some.inj e2]
    by_cases e : i = 0
    · subst e; simp [inV]
    · rw [Array.getElem_setIfInBounds]
      · rw [if_neg (by omega)]
        rw [Array.getElem?_eq_getElem (by rw [inr_size]; exact hi)] at e1
        rw [Option.some.inj e1]
        simp [inV, e]
      · rw [inr_size]; exact hi
theorem inr_setm (r j : Nat) (h m t : Nat → Int) (last : Bool) (hj : j < 16) (y : Int) : (inr r h m t last).setIfInBounds (9 + j) (.int .u64 y) = inr r h (updI m j y) t last := by
  apply Array.ext
  · simp [inr_size]
  · intro i h1 h2
    have hi : i < 28 := by rw [inr_size] at h2; exact h2
    have e1 := inr_at r h m t last i hi
    have e2 := inr_at r h (updI m j y) t last i hi
    rw [Array.getElem?_eq_getElem h2] at e2
    rw [Option.some.inj e2]
    by_cases e : i = 9 + j
    · subst e
      rw [Array.getElem_setIfInBounds]
      · rw [if_pos rfl]
        unfold inV updI
        rw [if_neg (by omega), if_neg (by omega), if_pos (by omega), if_pos (by omega)]
      · rw [inr_size]; exact hi
    · rw [Array.getElem_setIfInBounds]
      · rw [if_neg (by omega)]
        rw [Array.getElem?_eq_getElem (by rw [inr_size]; exact hi)] at e1
        rw [Option.some.inj e1]
        unfold inV updI
        by_cases k0 : i = 0
        · rw [if_pos k0, if_pos k0]
        · rw [if_neg k0, if_neg k0]
          by_cases k1 : i < 9
          · rw [if_pos k1, if_pos k1]
          · rw [if_neg k1, if_neg k1]
            by_cases k2 : i < 25
            · rw [if_pos k2, if_pos k2, if_neg (show ¬ i - 9 = j by omega)]
            · rw [if_neg k2, if_neg k2]
      · rw [inr_size]; exact hi
/-- The worlds in which a block holds what is given. -/
structure CI (w : World) (b : Nat) (r : Nat) (h m t : Nat → Int) (last : Bool) (wx : World) : Prop where
  old : Below w.heap.size w wx
  row : wx.heap[b]? = some (.cells (inr r h m t last) 58 (0, 0))
theorem CI.below {w wx w' : World} {b r : Nat} {h m t : Nat → Int} {last : Bool} (c : CI w b r h m t last wx) (hb : Below wx.heap.size wx w') : CI w b r h m t last w' :=
  ⟨c.old.trans (hb.mono c.old.size), (hb.block _ (Array.getElem?_eq_some_iff.1 c.row).1).trans c.row⟩
theorem row_cell {w : World} {b r : Nat} {h m t : Nat → Int} {last : Bool} (c : w.heap[b]? = some (.cells (inr r h m t last) 58 (0, 0))) (j : Nat) (hj : j < 28) : w.cell? ⟨b, j, none⟩ = some (inV r h m t last j) := (cell_of_row _ _ j _ _ _ c).trans (inr_at _ _ _ _ _ _ hj)
theorem in_r {w : World} {b r : Nat} {h m t : Nat → Int} {last : Bool} (c : w.heap[b]? = some (.cells (inr r h m t last) 58 (0, 0))) : (Instr.loadAt 46 (.pointer (some ⟨b, 0, none⟩))).run Tryd.prog w = .ok (.int .u32 r) w := by
  have h0 := row_cell c 0 (by omega)
  simp only [inV, if_true] at h0
  go_simp
theorem in_h {w : World} {b r : Nat} {h m t : Nat → Int} {last : Bool} (c : w.heap[b]? = some (.cells (inr r h m t last) 58 (0, 0))) : (Instr.loadAt 54 (.pointer (some ⟨b, 1, none⟩))).run Tryd.prog w = .ok (.agg (ar .u64 8 h)) w := by
  simp only [Instr.loadAt, Instr.sureAddr, Sem.run_bind, Sem.run_pure, Result.andThen_ok, run_loadVar_part w b 1 8 54 .u64 h _ (fun j hj => by
    have h0 := row_cell c (1 + j) (by omega)
    unfold inV at h0
    rw [if_neg (by omega), if_pos (by omega), show 1 + j - 1 = j by omega] at h0
    exact h0) Tryd.underlying54 rfl info8u]
theorem in_m {w : World} {b r : Nat} {h m t : Nat → Int} {last : Bool} (c : w.heap[b]? = some (.cells (inr r h m t last) 58 (0, 0))) : (Instr.loadAt 55 (.pointer (some ⟨b, 9, none⟩))).run Tryd.prog w = .ok (.agg (ar .u64 16 m)) w := by
  simp only [Instr.loadAt, Instr.sureAddr, Sem.run_bind, Sem.run_pure, Result.andThen_ok, run_loadVar_part w b 9 16 55 .u64 m _ (fun j hj => by
    have h0 := row_cell c (9 + j) (by omega)
    unfold inV at h0
    rw [if_neg (by omega), if_neg (by omega), if_pos (by omega), show 9 + j - 9 = j by omega] at h0
    exact h0) Tryd.underlying55 rfl info16u]
theorem info2u : (Tryd.prog.info? 56).map (·.size) = some 2 := by kernel_rfl
theorem in_t {w : World} {b r : Nat} {h m t : Nat → Int} {last : Bool} (c : w.heap[b]? = some (.cells (inr r h m t last) 58 (0, 0))) : (Instr.loadAt 56 (.pointer (some ⟨b, 25, none⟩))).run Tryd.prog w = .ok (.agg (ar .u64 2 t)) w := by
  simp only [Instr.loadAt, Instr.sureAddr, Sem.run_bind, Sem.run_pure, Result.andThen_ok, run_loadVar_part w b 25 2 56 .u64 t _ (fun j hj => by
    have h0 := row_cell c (25 + j) (by omega)
    unfold inV at h0
    rw [if_neg (by omega), if_neg (by omega), if_neg (by omega), if_pos (by omega), show 25 + j - 25 = j by omega] at h0
    exact h0) Tryd.underlying56 rfl info2u]
theorem in_l {w : World} {b r : Nat} {h m t : Nat → Int} {last : Bool} (c : w.heap[b]? = some (.cells (inr r h m t last) 58 (0, 0))) : (Instr.loadAt 4 (.pointer (some ⟨b, 27, none⟩))).run Tryd.prog w = .ok (.bool last) w := by
  have h0 := row_cell c 27 (by omega)
  unfold inV at h0
  rw [if_neg (by omega), if_neg (by omega), if_neg (by omega), if_neg (by omega)] at h0
  go_simp
/-! Eight numbers compared. -/
theorem ar_lit8 (r : Nat → Int) : ar .u64 8 r = #[.int .u64 (r 0), .int .u64 (r 1), .int .u64 (r 2), .int .u64 (r 3), .int .u64 (r 4), .int .u64 (r 5), .int .u64 (r 6), .int .u64 (r 7)] := by kernel_rfl
theorem eqg8 (r : Nat → Int) (o1 o2 : Operand) (w : World) : (eqGuard BinOp.eql 54 o1 o2 (.agg (ar .u64 8 r)) (.agg (ar .u64 8 r))).run Tryd.prog w = .ok () w := by kernel_rfl
theorem neg8 (r : Nat → Int) (o1 o2 : Operand) (w : World) : (eqGuard BinOp.neq 54 o1 o2 (.agg (ar .u64 8 r)) (.agg (ar .u64 8 r))).run Tryd.prog w = .ok () w := by kernel_rfl
set_option maxRecDepth 100000 in
set_option maxHeartbeats 2000000 in
theorem eqi8 (r : Nat → Int) (w : World) : (Op.equalIn 10000 54 (.agg (ar .u64 8 r)) (.agg (ar .u64 8 r))).run Tryd.prog w = .ok true w := by
  rw [ar_lit8]
  have u3 := Tryd.underlying34 
  have a3' := Tryd.isAgg34 
  have z3 := Tryd.sizeOf34 
  rw [show (10000 : Nat) = 9999 + 1 from rfl, Op.equalIn]
  simp only [Sem.run_bind, run_underlying Tryd.underlying54 , Result.andThen_ok]
  simp only [Std.Legacy.Range.forIn_eq_forIn_range', Std.Legacy.Range.size, Nat.sub_zero, Nat.add_sub_cancel, Nat.div_one, List.range'_succ, List.range'_zero, List.forIn_cons, List.forIn_nil]
  go_simp
theorem eqb8 (r : Nat → Int) (w : World) : (binOp BinOp.eql 54 (.agg (ar .u64 8 r)) (.agg (ar .u64 8 r))).run Tryd.prog w = .ok (.bool true) w := by
  have h := eqi8 r
  go_simp
theorem neb8 (r : Nat → Int) (w : World) : (binOp BinOp.neq 54 (.agg (ar .u64 8 r)) (.agg (ar .u64 8 r))).run Tryd.prog w = .ok (.bool false) w := by
  have h := eqi8 r
  go_simp
/-- The worlds of a law: the table lies, too. -/
theorem f_in {w : World} {b r : Nat} {h m t : Nat → Int} {last : Bool} (k : Nat) (hk : k < 4294967296) (hP : Plc w) (wx : World) (c : CI w b r h m t last wx) (m' : Nat → Int) : Calls Tryd.prog 36 #[.int .u32 k, .agg (ar .u64 8 h), .agg (ar .u64 16 m'), .agg (ar .u64 2 t), .bool last] wx (fun e w' => e = .returned (.agg (ar .u64 8 (bfi h (vrn (bgn h t last) m' (min k 65536))))) ∧ CI w b r h m t last w') :=
  (bf_any k h m' t last hk wx (hP.below c.old)).mono fun _ _ hh => ⟨hh.1, c.below hh.2⟩
theorem rf_in {w : World} {b r : Nat} {h m t : Nat → Int} {last : Bool} (k : Nat) (hk : k < 4294967296) (wx : World) (c : CI w b r h m t last wx) (m' : Nat → Int) : Calls Tryd.prog 37 #[.int .u32 k, .agg (ar .u64 8 h), .agg (ar .u64 16 m'), .agg (ar .u64 2 t), .bool last] wx (fun e w' => e = .returned (.agg (ar .u64 8 (bfi h (vrn (bgn h t last) m' (min k 65536))))) ∧ CI w b r h m t last w') :=
  (brf_any k h m' t last hk wx).mono fun _ _ hh => ⟨hh.1, c.below hh.2⟩
end Go.Proofs.YtoeomlmnejhgpaaDoor

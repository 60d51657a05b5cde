/- The permutation's worlds: a block turns, fresh ones may be made. -/
import Derived.Test.YtcmpnnfnkcmpcaaDoorKMix
import Derived.Test.YtcmpnnfnkcmpcaaDoorKRnd
import Derived.Laws.CopyRow
namespace Go.Proofs.YtcmpnnfnkcmpcaaDoor
open Go.RowKit

/-- Nothing that was there has turned but the block V. -/
structure Bt (V : Nat) (w w' : World) : Prop where
  os : w'.os = w.os
  tape : w'.tape = w.tape
  output : w'.output = w.output
  size : w.heap.size ≤ w'.heap.size
  block : ∀ k, k ≠ V → k < w.heap.size → w'.heap[k]? = w.heap[k]?
theorem Bt.refl (V : Nat) (w : World) : Bt V w w := ⟨rfl, rfl, rfl, Nat.le_refl _, fun _ _ _ => rfl⟩
theorem Bt.trans {V : Nat} {w w' w'' : World} (h : Bt V w w') (h' : Bt V w' w'') : Bt V w w'' :=
  ⟨h'.os.trans h.os, h'.tape.trans h.tape, h'.output.trans h.output, Nat.le_trans h.size h'.size, fun k hk hl => (h'.block k hk (Nat.lt_of_lt_of_le hl h.size)).trans (h.block k hk hl)⟩
theorem Bt.of_kbut {V : Nat} {w w' : World} (h : KBut V w w') : Bt V w w' := ⟨h.os, h.tape, h.output, Nat.le_of_eq h.size.symm, fun k hk _ => h.block k hk⟩
theorem Bt.of_below {V : Nat} {w w' : World} (h : Below w.heap.size w w') : Bt V w w' := ⟨h.os, h.tape, h.output, h.size, fun k _ hl => h.block k hl⟩
theorem Bt.below {V B : Nat} {w0 w w' : World} (h0 : Below B w0 w) (h : Bt V w w') (hB : B ≤ V) (hl : B ≤ w.heap.size) : Below B w0 w' :=
  h0.trans ⟨h.os, h.tape, h.output, h.size, fun k hk => h.block k (by omega) (by omega)⟩
theorem Bt.drew {V : Nat} {w w' : World} (h : Bt V w w') : Bt V w w'.drew := ⟨h.os, h.tape, h.output, h.size, h.block⟩
theorem Bt.set {V : Nat} {w w' : World} (h : Bt V w w') (j : Nat) (u : Value) : Bt V w (w'.setCell ⟨V, j, none⟩ u) :=
  ⟨h.os, h.tape, h.output, by simpa using h.size, fun k hk hl => (Below.heap_setCell _ _ _ _ hk).trans (h.block k hk hl)⟩
theorem Bt.setRow {V R : Nat} {w w' : World} (h : Bt V w w') (hR : w.heap.size ≤ R) (cs : Array Value) : Bt V w (w'.setRow R cs) :=
  ⟨h.os, h.tape, h.output, by simpa using h.size, fun k hk hl => (setRow_other _ _ _ _ (by omega)).trans (h.block k hk hl)⟩
theorem Bt.cell {V : Nat} {w w' : World} (h : Bt V w w') {p : Addr} (hp : p.block ≠ V) (hl : p.block < w.heap.size) : w'.cell? p = w.cell? p := World.cell?_of_block (w := w) (h.block p.block hp hl)
theorem Bt.alloc {V : Nat} {w w' : World} (h : Bt V w w') (o : Obj) : Bt V w (w'.alloc o) := h.trans (Bt.of_below ((Below.refl _ _).alloc (Nat.le_refl _) _))
/-- The worlds of the permutation: 25 numbers ahead of a tail in the block V. -/
structure CP (w : World) (V : Nat) (tt : TypeId) (tl : Array Value) (v : Nat → Int) (wx : World) : Prop where
  bt : Bt V w wx
  row : wx.heap[V]? = some (.cells (kr v tl) tt (0, 0))
section
variable {w wx : World} {V : Nat} {tt : TypeId} {tl : Array Value} {v : Nat → Int}
theorem CP.drew (c : CP w V tt tl v wx) : CP w V tt tl v wx.drew := ⟨c.bt.drew, c.row⟩
theorem CP.cell (c : CP w V tt tl v wx) (j : Nat) (hj : j < 25) : wx.cell? ⟨V, j, none⟩ = some (.int .u64 (v j)) :=
  (cell_of_row wx _ j _ _ _ c.row).trans (kr_at _ _ _ hj)
theorem CP.at' (c : CP w V tt tl v wx) (j : Nat) (hj : j < 25) (y : Int) (hy : v j = y) : (Instr.loadAt 34 (.pointer (some ⟨V, j, none⟩))).run Tryd.prog wx = .ok (.int .u64 y) wx := kload _ _ _ _ (by rw [← hy]; exact c.cell j hj)
theorem CP.set (c : CP w V tt tl v wx) (j : Nat) (hj : j < 25) (y : Int) : CP w V tt tl (updI v j y) (wx.setCell ⟨V, j, none⟩ (.int .u64 y)) :=
  ⟨c.bt.set j _, (heap_setCell_same _ _ _ _ _ _ c.row).trans (by rw [kr_set _ _ _ _ hj])⟩
end
theorem wpList_val {P : Program} {ops : Array Oper} {rest : List Oper} {o : Oper} {a : Act} {w w' : World} {Q : Exit → Act → World → Prop} (hgd : o.guard = none) (v : Value) (hr : (execOp a.eval o).run P w = .ok (.value v) w')
    (h : wpList P ops Q rest (a.put o.dst v) w') : wpList P ops Q (o :: rest) a w :=
  wpList_plain hgd fun _ hK => by
    unfold Oper.wp
    rw [hr]
    exact hK _ _ h
theorem wpList_sem {P : Program} {ops : Array Oper} {rest : List Oper} {o : Oper} {a : Act} {w w' : World} {Q : Exit → Act → World → Prop} (hgd : o.guard = none) (s : Sem Value) (v : Value) (ho : execOp a.eval o = (do let x ← s; pure (.value x))) (hr : s.run P w = .ok v w')
    (h : wpList P ops Q rest (a.put o.dst v) w') : wpList P ops Q (o :: rest) a w :=
  wpList_val hgd v (by rw [ho]; simp only [Sem.run_bind, hr, Result.andThen_ok, Sem.run_pure]) h
end Go.Proofs.YtcmpnnfnkcmpcaaDoor

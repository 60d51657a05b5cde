/- BLAKE2b: what the reference's F comes to. -/
import Derived.Test.YtoeomlmnejhgpaaDoorBFrac264
import Derived.Test.YtoeomlmnejhgpaaDoorTieL
namespace Go.Proofs.YtoeomlmnejhgpaaDoor
open Go.RowKit

/-- The eight roots are the beginning's numbers. -/
theorem root_iv : ∀ j : Fin 8, ((frn (pr j) 2 64 % 65536 ^ 4 : Nat) : Int) = ivT (8 + j) := by decide +kernel
theorem frac_iv (j : Nat) (hj : j < 8) (w : World) : Calls Tryd.prog 68 #[.int .u64 (pr j : Nat), .int .i64 2, .int .i64 64] w fun e w' => e = .returned (.int .u64 (ivT (8 + j))) ∧ Below w.heap.size w w' := by
  have h := frac_2_64 (pr j) (by have := pr_pos ⟨j, by omega⟩; simp at this; omega) w
  rw [root_iv ⟨j, hj⟩] at h
  exact h
theorem primes_8 (w : World) : Calls Tryd.prog 67 #[.int .i64 8] w fun e w' => ∃ g c, e = .returned (.slice (some ⟨g, 0, none⟩) 8 c) ∧ w'.ownsRow w.heap.size 34 1 (.slice (some ⟨g, 0, none⟩) 8 c) 8 (pu pr 8) ∧ Below w.heap.size w w' := primes_any 8 (by omega) w
/-- The numbers while the beginning is laid. -/
def bg0 (h : Nat → Int) (k j : Nat) : Int := if j < k then h j else if 8 ≤ j ∧ j < 8 + k then ivT j else 0
theorem bg0_next {h : Nat → Int} {k q : Nat} (hk : k < 8) (hq : 8 + k = q) (i : Nat) : updI (updI (bg0 h k) k (h k)) q (ivT q) i = bg0 h (k + 1) i := by
  unfold updI bg0
  by_cases e1 : i = q
  · rw [if_pos e1, if_neg (by omega), if_pos (by omega), e1]
  · rw [if_neg e1]
    by_cases e2 : i = k
    · rw [if_pos e2, if_pos (by omega), e2]
    · rw [if_neg e2]
      by_cases e3 : i < k
      · rw [if_pos e3, if_pos (by omega)]
      · rw [if_neg e3, if_neg (show ¬ i < k + 1 by omega)]
        by_cases e4 : 8 ≤ i ∧ i < 8 + k
        · rw [if_pos e4, if_pos (by omega)]
        · rw [if_neg e4, if_neg (by omega)]
theorem bg0_full (h : Nat → Int) : ar .u64 16 (bg0 h 8) = ar .u64 16 (bgh h) := ar_congr fun i hi => by
  unfold bg0 bgh
  by_cases e : i < 8
  · rw [if_pos e, if_pos e]
  · rw [if_neg e, if_neg e, if_pos (by omega)]
theorem bg0_none (h : Nat → Int) : ar .u64 16 (bg0 h 0) = #[.int .u64 0, .int .u64 0, .int .u64 0, .int .u64 0, .int .u64 0, .int .u64 0, .int .u64 0, .int .u64 0, .int .u64 0, .int .u64 0, .int .u64 0, .int .u64 0, .int .u64 0, .int .u64 0, .int .u64 0, .int .u64 0] := by kernel_rfl
/-- The mixes of columns and of diagonals. -/
def mxc (v m : Nat → Int) : Nat → Nat → Int
  | 0 => v
  | k + 1 => mxv (mxc v m k) k (4 + k) (8 + k) (12 + k) (m (2 * k)) (m (2 * k + 1))
def mxe (v m : Nat → Int) : Nat → Nat → Int
  | 0 => v
  | k + 1 => mxv (mxe v m k) k (4 + (k + 1) % 4) (8 + (k + 2) % 4) (12 + (k + 3) % 4) (m (8 + 2 * k)) (m (9 + 2 * k))
theorem rnd_mxe (v m : Nat → Int) : mxe (mxc v m 4) m 4 = rnd v m := by rw [rnd_mixes]; rfl
/-- The worlds of the reference's F. -/
structure CG (w : World) (h m t : Nat → Int) (V pg : Nat) (v : Nat → Int) (wx : World) : Prop where
  old : Below w.heap.size w wx
  r0 : wx.heap[w.heap.size]? = some (.cells (ar .u64 8 h) 54 (0, 0))
  r1 : wx.heap[w.heap.size + 1]? = some (.cells (ar .u64 16 m) 55 (0, 0))
  r2 : wx.heap[w.heap.size + 1 + 1]? = some (.cells (ar .u64 2 t) 56 (0, 0))
  r3 : wx.heap[w.heap.size + 1 + 1 + 1]? = some (.cells #[.int .u64 0, .int .u64 0, .int .u64 0, .int .u64 0, .int .u64 0, .int .u64 0, .int .u64 0, .int .u64 0] 54 (0, 0))
  rV : wx.heap[V]? = some (.cells (ar .u64 16 v) 55 (0, 0))
  hV : w.heap.size + 4 ≤ V
  pl : ∀ j, j < 8 → wx.cell? ⟨pg, j, none⟩ = some (.int .u64 (pr j : Nat))
  pb : w.heap.size + 4 ≤ pg ∧ pg < V
theorem CG.high {w wx : World} {h m t v : Nat → Int} {V pg : Nat} (c : CG w h m t V pg v wx) : V < wx.heap.size := (Array.getElem?_eq_some_iff.1 c.rV).1
theorem CG.below {w wx w' : World} {h m t v : Nat → Int} {V pg : Nat} (c : CG w h m t V pg v wx) (hb : Below wx.heap.size wx w') : CG w h m t V pg v w' := by
  have l := c.high
  have l2 := c.hV
  have l3 := c.pb
  exact ⟨c.old.trans (hb.mono (by omega)), (hb.block _ (by omega)).trans c.r0, (hb.block _ (by omega)).trans c.r1, (hb.block _ (by omega)).trans c.r2, (hb.block _ (by omega)).trans c.r3, (hb.block _ l).trans c.rV, l2, fun j hj => (hb.cell (p := ⟨pg, j, none⟩) (by show pg < _; omega)).trans (c.pl j hj), l3⟩
theorem CG.drew {w wx : World} {h m t v : Nat → Int} {V pg : Nat} (c : CG w h m t V pg v wx) : CG w h m t V pg v wx.drew := ⟨c.old.drew, c.r0, c.r1, c.r2, c.r3, c.rV, c.hV, c.pl, c.pb⟩
theorem CG.row {w wx : World} {h m t v : Nat → Int} {V pg : Nat} (c : CG w h m t V pg v wx) (v' : Nat → Int) : CG w h m t V pg v' (wx.setRow V (ar .u64 16 v')) := by
  have l2 := c.hV
  have l3 := c.pb
  exact ⟨below_setRow c.old (by omega) _, (setRow_other _ _ _ _ (by omega)).trans c.r0, (setRow_other _ _ _ _ (by omega)).trans c.r1, (setRow_other _ _ _ _ (by omega)).trans c.r2, (setRow_other _ _ _ _ (by omega)).trans c.r3, setRow_heap _ _ _ _ _ _ c.rV, l2, fun j hj => (World.cell?_of_block (w := wx) (setRow_other _ _ _ _ (by show pg ≠ V; omega))).trans (c.pl j hj), l3⟩
theorem CG.set {w wx : World} {h m t v : Nat → Int} {V pg : Nat} (c : CG w h m t V pg v wx) (j : Nat) (hj : j < 16) (y : Int) : CG w h m t V pg (updI v j y) (wx.setCell ⟨V, j, none⟩ (.int .u64 y)) := by
  have l2 := c.hV
  have l3 := c.pb
  exact ⟨c.old.setCell (by show w.heap.size ≤ V; omega) _, (heap_setCell_other _ _ _ _ (by show _ ≠ V; omega)).trans c.r0, (heap_setCell_other _ _ _ _ (by show _ ≠ V; omega)).trans c.r1, (heap_setCell_other _ _ _ _ (by show _ ≠ V; omega)).trans c.r2, (heap_setCell_other _ _ _ _ (by show _ ≠ V; omega)).trans c.r3, (heap_setCell_same _ _ _ _ _ _ c.rV).trans (by rw [ar_set _ _ _ _ _ hj]), l2, fun k hk => (World.cell?_setCell_other _ _ _ _ (by intro e; injection e with e1 e2; omega)).trans (c.pl k hk), l3⟩
theorem CG.store {w wx : World} {h m t v : Nat → Int} {V pg : Nat} (c : CG w h m t V pg v wx) (j : Nat) (hj : j < 16) (y : Int) : (Instr.storeAt 34 (.pointer (some ⟨V, j, none⟩)) (.int .u64 y)).run Tryd.prog wx = .ok () (wx.setCell ⟨V, j, none⟩ (.int .u64 y)) :=
  store_u64 _ _ _ _ _ (cell_row16 c.rV j hj) (frozen_of_row _ _ j _ _ c.rV)
theorem CG.at' {w wx : World} {h m t v : Nat → Int} {V pg : Nat} (c : CG w h m t V pg v wx) (j : Nat) (hj : j < 16) (y : Int) (hy : v j = y) : (Instr.loadAt 34 (.pointer (some ⟨V, j, none⟩))).run Tryd.prog wx = .ok (.int .u64 y) wx := by rw [← hy]; exact load_u64 _ _ _ _ (cell_row16 c.rV j hj)
theorem at8 (V j : Nat) (hj : j < 8) (w : World) : (Instr.indexAt 54 (.pointer (some ⟨V, 0, none⟩)) (.int .i64 j)).run Tryd.prog w = .ok (.pointer (some ⟨V, j, none⟩)) w := by
  have h0 : (0 : Int) ≤ j := by omega
  have h1 : (j : Int) < 8 := by omega
  go_simp
theorem at2 (V j : Nat) (hj : j < 2) (w : World) : (Instr.indexAt 56 (.pointer (some ⟨V, 0, none⟩)) (.int .i64 j)).run Tryd.prog w = .ok (.pointer (some ⟨V, j, none⟩)) w := by
  have h0 : (0 : Int) ≤ j := by omega
  have h1 : (j : Int) < 2 := by omega
  go_simp
theorem atLu (g n c j : Nat) (hj : j < n) (w : World) : (Instr.indexAt 71 (.slice (some ⟨g, 0, none⟩) n c) (.int .i64 j)).run Tryd.prog w = .ok (.pointer (some ⟨g, j, none⟩)) w := by
  have h0 : (0 : Int) ≤ j := by omega
  have h1 : (j : Int) < n := by omega
  go_simp
theorem atLi (g n c j : Nat) (hj : j < n) (w : World) : (Instr.indexAt 107 (.slice (some ⟨g, 0, none⟩) n c) (.int .i64 j)).run Tryd.prog w = .ok (.pointer (some ⟨g, j, none⟩)) w := by
  have h0 : (0 : Int) ≤ j := by omega
  have h1 : (j : Int) < n := by omega
  go_simp
theorem add_i (x y z : Nat) (h : x + y = z) (hz : z < 1000000) (w : World) : (binOp BinOp.add 3 (.int .i64 (x : Nat)) (.int .i64 (y : Nat))).run Tryd.prog w = .ok (.int .i64 (z : Nat)) w := by
  have e : (x : Int) + (y : Int) = (z : Int) := by omega
  have h0 : (0 : Int) ≤ z := by omega
  have h1 : (z : Int) < 1000000 := by omega
  have h2 : IntKind.i64.wrap (z : Int) = (z : Int) := by rw [IntKind.wrap_i64]; omega
  go_simp
theorem mul_i (x y z : Nat) (h : x * y = z) (hz : z < 1000000) (w : World) : (binOp BinOp.mul 3 (.int .i64 (x : Nat)) (.int .i64 (y : Nat))).run Tryd.prog w = .ok (.int .i64 (z : Nat)) w := by
  have e : (x : Int) * (y : Int) = (z : Int) := by rw [← h]; simp
  have h0 : (0 : Int) ≤ z := by omega
  have h1 : (z : Int) < 1000000 := by omega
  have h2 : IntKind.i64.wrap (z : Int) = (z : Int) := by rw [IntKind.wrap_i64]; omega
  go_simp
theorem rem_i4 (x z : Nat) (h : x % 4 = z) (w : World) : (binOp BinOp.rem 3 (.int .i64 (x : Nat)) (.int .i64 4)).run Tryd.prog w = .ok (.int .i64 (z : Nat)) w := by
  have e : (x : Int).tmod 4 = (z : Int) := by rw [Int.tmod_eq_emod_of_nonneg (by omega)]; omega
  go_simp
/-- The worlds of a round: the row of places, too. -/
structure CS (w : World) (h m t : Nat → Int) (V pg rg : Nat) (s : Nat → Nat) (v : Nat → Int) (wx : World) : Prop where
  g : CG w h m t V pg v wx
  row : ∀ j, j < 16 → wx.cell? ⟨rg, j, none⟩ = some (.int .i64 (s j : Nat))
  hr : V < rg ∧ rg < wx.heap.size
theorem CS.below {w wx w' : World} {h m t v : Nat → Int} {V pg rg : Nat} {s : Nat → Nat} (c : CS w h m t V pg rg s v wx) (hb : Below wx.heap.size wx w') : CS w h m t V pg rg s v w' :=
  ⟨c.g.below hb, fun j hj => (hb.cell (p := ⟨rg, j, none⟩) c.hr.2).trans (c.row j hj), c.hr.1, Nat.lt_of_lt_of_le c.hr.2 hb.size⟩
theorem CS.drew {w wx : World} {h m t v : Nat → Int} {V pg rg : Nat} {s : Nat → Nat} (c : CS w h m t V pg rg s v wx) : CS w h m t V pg rg s v wx.drew := ⟨c.g.drew, c.row, c.hr⟩
theorem CS.set {w wx : World} {h m t v : Nat → Int} {V pg rg : Nat} {s : Nat → Nat} (c : CS w h m t V pg rg s v wx) (v' : Nat → Int) : CS w h m t V pg rg s v' (wx.setRow V (ar .u64 16 v')) :=
  ⟨c.g.row v', fun j hj => (World.cell?_of_block (w := wx) (setRow_other _ _ _ _ (by show rg ≠ V; have := c.hr.1; omega))).trans (c.row j hj), c.hr.1, by rw [setRow_size]; exact c.hr.2⟩
/-- Blocks above V stay. -/
def RV (V : Nat) (wa wb : World) : Prop := wa.heap.size ≤ wb.heap.size ∧ ∀ g, V < g → g < wa.heap.size → wb.heap[g]? = wa.heap[g]?
theorem RV.refl (V : Nat) (w : World) : RV V w w := ⟨Nat.le_refl _, fun _ _ _ => rfl⟩
theorem RV.of {V : Nat} {wa wb : World} (hb : Below wa.heap.size wa wb) : RV V wa wb := ⟨hb.size, fun g _ hg => hb.block g hg⟩
theorem RV.row {V : Nat} {w : World} (cs : Array Value) : RV V w (w.setRow V cs) := ⟨Nat.le_of_eq (setRow_size w V cs).symm, fun g hg _ => setRow_other _ _ _ _ (by omega)⟩
theorem L4.rv {wa wb : World} {V g a b c d : Nat} (h : L4 wa g a b c d) (hg : V < g) (hR : RV V wa wb) : L4 wb g a b c d := by
  have e := hR.2 g hg h.lt
  exact ⟨Nat.lt_of_lt_of_le h.lt hR.1, (World.cell?_of_block (w := wa) e).trans h.c0, (World.cell?_of_block (w := wa) e).trans h.c1, (World.cell?_of_block (w := wa) e).trans h.c2, (World.cell?_of_block (w := wa) e).trans h.c3⟩
theorem L4.new (w : World) (a b c d : Nat) : L4 (w.alloc (.cells #[.int .i64 (a : Nat), .int .i64 (b : Nat), .int .i64 (c : Nat), .int .i64 (d : Nat)] 3)) w.heap.size a b c d :=
  ⟨by simp, (cell_of_row _ _ 0 _ _ _ (heap_alloc_new _ _)).trans rfl, (cell_of_row _ _ 1 _ _ _ (heap_alloc_new _ _)).trans rfl, (cell_of_row _ _ 2 _ _ _ (heap_alloc_new _ _)).trans rfl, (cell_of_row _ _ 3 _ _ _ (heap_alloc_new _ _)).trans rfl⟩
theorem store_16 {g : Nat} {w : World} {v v' : Nat → Int} (hg : w.heap[g]? = some (.cells (ar .u64 16 v) 55 (0, 0))) : (Instr.storeAt 55 (.pointer (some ⟨g, 0, none⟩)) (.agg (ar .u64 16 v'))).run Tryd.prog w = .ok () (w.setRow g (ar .u64 16 v')) := by
  simp only [Instr.storeAt, Instr.sureAddr, Sem.run_bind, Sem.run_pure, Result.andThen_ok]
  exact run_storeVar_row w g 55 55 _ _ hg (by rw [ar_size]; exact info16u) (by rw [ar_size, ar_size]) (ar_one _ _ _)
/-- Four numbers as a list. -/
def bsl (x y z u : Value) : Sem Value := Instr.buildSlice 107 4 #[(0, x), (1, y), (2, z), (3, u)]
theorem run_bsl (a b c d : Nat) (w : World) : (bsl (.int .i64 (a : Nat)) (.int .i64 (b : Nat)) (.int .i64 (c : Nat)) (.int .i64 (d : Nat))).run Tryd.prog w = .ok (.slice (some ⟨w.heap.size, 0, none⟩) 4 4) (w.alloc (.cells #[.int .i64 (a : Nat), .int .i64 (b : Nat), .int .i64 (c : Nat), .int .i64 (d : Nat)] 3)) := by
  unfold bsl
  go_simp
end Go.Proofs.YtoeomlmnejhgpaaDoor

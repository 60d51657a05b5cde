/- The reference of layer 3: a round. Its array of arrays holds the lane (x, y) at 5x + y. -/
import Derived.Test.YtcmpnnfnkcmpcaaDoorKRef
import Derived.Test.YtcmpnnfnkcmpcaaDoorKBt
namespace Go.Proofs.YtcmpnnfnkcmpcaaDoor
open Go.RowKit

/-- The state turned about: what the cell k of the reference's array holds. -/
def tp (v : Nat → Int) (k : Nat) : Int := v (k / 5 + 5 * (k % 5))
theorem tp_at (v : Nat → Int) {x y : Nat} (hy : y < 5) : tp v (5 * x + y) = v (x + 5 * y) := by
  unfold tp
  rw [show (5 * x + y) / 5 = x by omega, show (5 * x + y) % 5 = y by omega]
theorem tp_set (v : Nat → Int) {x y : Nat} (hx : x < 5) (hy : y < 5) (z : Int) : (ar .u64 25 (tp v)).setIfInBounds (5 * x + y) (.int .u64 z) = ar .u64 25 (tp (updI v (x + 5 * y) z)) := by
  rw [ar_set _ _ _ _ _ (by omega)]
  refine ar_congr fun j hj => ?_
  show (if j = 5 * x + y then z else v (j / 5 + 5 * (j % 5))) = (if j / 5 + 5 * (j % 5) = x + 5 * y then z else v (j / 5 + 5 * (j % 5)))
  by_cases h : j = 5 * x + y
  · rw [if_pos h, if_pos (by omega)]
  · rw [if_neg h, if_neg (by omega)]
theorem tp_congr {v u : Nat → Int} (h : ∀ i, i < 25 → v i = u i) : ar .u64 25 (tp v) = ar .u64 25 (tp u) :=
  ar_congr fun j hj => h _ (by omega)
/-- The column x's sum behind y rows. -/
def cpt (v : Nat → Int) (x : Nat) : Nat → Int
  | 0 => 0
  | y + 1 => bits .xor .u64 (cpt v x y) (v (x + 5 * y))
def cD (v : Nat → Int) (x y j : Nat) : Int := if j < x then cpt v j 5 else if j = x then cpt v x y else 0
theorem cD_next (v : Nat → Int) (x y : Nat) : updI (cD v x y) x (bits .xor .u64 (cD v x y x) (v (x + 5 * y))) = cD v x (y + 1) := by
  funext j
  unfold updI cD
  by_cases h : j = x
  · subst h; rw [if_pos rfl, if_neg (by omega), if_pos rfl, if_neg (by omega), if_pos rfl]; rfl
  · rw [if_neg h, if_neg h, if_neg h]
theorem cD_row (v : Nat → Int) (x : Nat) : cD v x 5 = cD v (x + 1) 0 := by
  funext j
  unfold cD
  by_cases h : j < x
  · rw [if_pos h, if_pos (by omega)]
  · rw [if_neg h]
    by_cases h2 : j = x
    · subst h2; rw [if_pos rfl, if_pos (by omega)]
    · rw [if_neg h2, if_neg (by omega)]
      by_cases h3 : j = x + 1
      · rw [if_pos h3]; rfl
      · rw [if_neg h3]
theorem xor_0 {a : Int} (h : 0 ≤ a ∧ a < 18446744073709551616) : bits .xor .u64 0 a = a := by
  rw [kxor, IntKind.wrap_u64, show ((0 : Int) % 18446744073709551616).toNat = 0 from rfl, Nat.zero_xor]
  omega
theorem cpt_5 (v : Nat → Int) (x : Nat) (h : 0 ≤ v x ∧ v x < 18446744073709551616) : cpt v x 5 = kcl v x := by
  unfold kcl cpt cpt cpt cpt cpt cpt
  rw [Nat.mul_zero, Nat.add_zero, xor_0 h]
theorem xor_asc (a b c : Int) : bits .xor .u64 (bits .xor .u64 a b) c = bits .xor .u64 a (bits .xor .u64 b c) := by
  refine bi_inj (kxor_rng _ _) (kxor_rng _ _) fun z hz => ?_
  simp only [bi_xor]
  cases bi a z <;> cases bi b z <;> cases bi c z <;> rfl
/-- The state while columns are laid over it: the first x columns, and y lanes of the next. -/
def tD (v : Nat → Int) (x y j : Nat) : Int := if j % 5 < x ∨ j % 5 = x ∧ j / 5 < y then kth v j else v j
theorem tD_next (v : Nat → Int) {x y : Nat} (hx : x < 5) : ar .u64 25 (tp (updI (tD v x y) (x + 5 * y) (kth v (x + 5 * y)))) = ar .u64 25 (tp (tD v x (y + 1))) := by
  refine tp_congr fun j hj => ?_
  unfold updI tD
  by_cases h : j = x + 5 * y
  · subst h; rw [if_pos rfl, if_pos (by omega)]
  · rw [if_neg h]
    by_cases h2 : j % 5 < x ∨ j % 5 = x ∧ j / 5 < y
    · rw [if_pos h2, if_pos (by omega)]
    · rw [if_neg h2, if_neg (by omega)]
theorem tD_row (v : Nat → Int) (x : Nat) : ar .u64 25 (tp (tD v x 5)) = ar .u64 25 (tp (tD v (x + 1) 0)) := by
  refine tp_congr fun j hj => ?_
  unfold tD
  by_cases h : j % 5 < x + 1
  · rw [if_pos (by omega), if_pos (by omega)]
  · rw [if_neg (by omega), if_neg (by omega)]
theorem tD_0 (v : Nat → Int) : ar .u64 25 (tp (tD v 0 0)) = ar .u64 25 (tp v) := tp_congr fun j hj => by unfold tD; rw [if_neg (by omega)]
theorem tD_5 (v : Nat → Int) : ar .u64 25 (tp (tD v 5 0)) = ar .u64 25 (tp (kth v)) := tp_congr fun j hj => by unfold tD; rw [if_pos (by omega)]
theorem tD_at (v : Nat → Int) (x y : Nat) (hx : x < 5) : tD v x y (x + 5 * y) = v (x + 5 * y) := by unfold tD; rw [if_neg (by omega)]
theorem kth_of (v : Nat → Int) (x y : Nat) (hx : x < 5) (hy : y < 5) : bits .xor .u64 (bits .xor .u64 (v (x + 5 * y)) (kcl v ((x + 4) % 5))) (rul 1 (kcl v ((x + 1) % 5))) = kth v (x + 5 * y) := by
  unfold kth kds
  rw [if_pos (by omega), xor_asc, show (x + 5 * y) % 5 = x by omega]
/-- The moved state while it is made. -/
def mB (v : Nat → Int) (t i : Nat) : Int := if posT i < t then rul (ktrn i) (v (ksrc i)) else if i = 0 then v 0 else 0
theorem mB_next (v : Nat → Int) (t : Nat) (ht : t < 24) : updI (mB v t) (pthT t) (rul ((t + 1) * (t + 2) / 2) (v (lanT t))) = mB v (t + 1) := by
  obtain ⟨h1, h2, h3, h4, h5⟩ := pth_all t ht
  funext j
  unfold updI mB
  by_cases h : j = pthT t
  · subst h; rw [if_pos rfl, h2, if_pos (by omega), h3, h4]
  · rw [if_neg h]
    have hp : posT j ≠ t := fun e => h (pos_of ht e)
    by_cases hq : posT j < t
    · rw [if_pos hq, if_pos (by omega)]
    · rw [if_neg hq, if_neg (show ¬ posT j < t + 1 by omega)]
theorem mB_all (v : Nat → Int) : ar .u64 25 (tp (mB v 24)) = ar .u64 25 (tp (kmv v)) := tp_congr fun j hj => by
  unfold mB kmv
  have h := pos_mv j hj
  by_cases e : j = 0
  · subst e; rw [if_pos rfl, if_neg (by rw [h]; simp), if_pos rfl]
  · rw [if_pos (h.2 e), if_neg e]
theorem lan_xy : ∀ t, t < 24 → lanT t % 5 < 5 ∧ lanT t / 5 < 5 ∧ pthT t = lanT t / 5 + 5 * ((2 * (lanT t % 5) + 3 * (lanT t / 5)) % 5) ∧ lanT (t + 1) % 5 = lanT t / 5 ∧ lanT (t + 1) / 5 = (2 * (lanT t % 5) + 3 * (lanT t / 5)) % 5 := by decide +kernel
theorem not_and (a b : Int) : bits .and .u64 (bits .xor .u64 IntKind.u64.max a) b = bits .andNot .u64 b a := by
  have hm : ∀ z, z < 64 → bi IntKind.u64.max z = true := by decide +kernel
  obtain ⟨X, hX, e, h⟩ := kandnot b a
  have hand : bits .and .u64 (bits .xor .u64 IntKind.u64.max a) b = IntKind.u64.wrap (((bits .xor .u64 IntKind.u64.max a % 18446744073709551616).toNat &&& (b % 18446744073709551616).toNat : Nat) : Int) := by
    unfold bits
    simp
    rfl
  refine bi_inj (by rw [hand, IntKind.wrap_u64]; omega) (by omega) fun z hz => ?_
  rw [bi_andnot _ _ _ hz, hand]
  have h1 := bi_xor IntKind.u64.max a z
  rw [hm z hz] at h1
  unfold bi at h1 ⊢
  rw [kwrap _ (Nat.lt_of_le_of_lt Nat.and_le_right (klt b)), Nat.testBit_and, h1]
  cases (a % 18446744073709551616).toNat.testBit z <;> cases (b % 18446744073709551616).toNat.testBit z <;> rfl
theorem kch_of2 (v : Nat → Int) (x y : Nat) (hx : x < 5) : bits .xor .u64 (v (x + 5 * y)) (bits .and .u64 (bits .xor .u64 IntKind.u64.max (v ((x + 1) % 5 + 5 * y))) (v ((x + 2) % 5 + 5 * y))) = kch v (x + 5 * y) := by
  unfold kch
  rw [not_and, show (x + 5 * y) % 5 = x by omega, show (x + 5 * y) / 5 = y by omega]
/-- Lanes of u once the first m are mixed over v. -/
def cE (u v : Nat → Int) (m j : Nat) : Int := if j < m then kch u j else v j
theorem cE_next (u v : Nat → Int) (m : Nat) : updI (cE u v m) m (kch u m) = cE u v (m + 1) := by
  funext j
  unfold updI cE
  by_cases h : j = m
  · subst h; rw [if_pos rfl, if_pos (by omega)]
  · rw [if_neg h]
    by_cases h2 : j < m
    · rw [if_pos h2, if_pos (by omega)]
    · rw [if_neg h2, if_neg (by omega)]
theorem cE_0 (u v : Nat → Int) : cE u v 0 = v := funext fun j => by unfold cE; rw [if_neg (by omega)]
theorem cE_25 (u v : Nat → Int) : ar .u64 25 (tp (cE u v 25)) = ar .u64 25 (tp (kch u)) := tp_congr fun j hj => by unfold cE; rw [if_pos hj]
theorem z25_row : ar .u64 25 (tp fun _ => 0) = #[.int .u64 0, .int .u64 0, .int .u64 0, .int .u64 0, .int .u64 0, .int .u64 0, .int .u64 0, .int .u64 0, .int .u64 0, .int .u64 0, .int .u64 0, .int .u64 0, .int .u64 0, .int .u64 0, .int .u64 0, .int .u64 0, .int .u64 0, .int .u64 0, .int .u64 0, .int .u64 0, .int .u64 0, .int .u64 0, .int .u64 0, .int .u64 0, .int .u64 0] := by kernel_rfl
theorem z5_0 (v : Nat → Int) : ar .u64 5 (cD v 0 0) = #[.int .u64 0, .int .u64 0, .int .u64 0, .int .u64 0, .int .u64 0] := by
  rw [ar_congr (fun j _ => show cD v 0 0 j = (fun _ => (0 : Int)) j by
    unfold cD
    rw [if_neg (by omega)]
    by_cases h : j = 0
    · rw [if_pos h]; rfl
    · rw [if_neg h])]
  kernel_rfl
theorem ix25 (B x : Nat) (h : x < 5) (w : World) : (Instr.indexAt 49 (.pointer (some ⟨B, 0, none⟩)) (.int .i64 (x : Nat))).run Tryd.prog w = .ok (.pointer (some ⟨B, 5 * x, none⟩)) w := by
  have h0 : (0 : Int) ≤ x := by omega
  have h1 : (x : Int) < 5 := by omega
  go_simp
theorem ix5 (B o y : Nat) (h : y < 5) (w : World) : (Instr.indexAt 48 (.pointer (some ⟨B, o, none⟩)) (.int .i64 (y : Nat))).run Tryd.prog w = .ok (.pointer (some ⟨B, o + y, none⟩)) w := by
  have h0 : (0 : Int) ≤ y := by omega
  have h1 : (y : Int) < 5 := by omega
  go_simp
theorem ix5z (B y : Nat) (h : y < 5) (w : World) : (Instr.indexAt 48 (.pointer (some ⟨B, 0, none⟩)) (.int .i64 (y : Nat))).run Tryd.prog w = .ok (.pointer (some ⟨B, y, none⟩)) w := by
  have h1 := ix5 B 0 y h w
  rwa [Nat.zero_add] at h1
/-- The worlds of a round: the state at S, what it answers at S + 1, the columns at S + 2. -/
structure CQ (w : World) (v c : Nat → Int) (wx : World) : Prop where
  old : Below w.heap.size w wx
  r0 : wx.heap[w.heap.size]? = some (.cells (ar .u64 25 (tp v)) 49 (0, 0))
  r1 : wx.heap[w.heap.size + 1]? = some (.cells (ar .u64 25 (tp fun _ => 0)) 49 (0, 0))
  r2 : wx.heap[w.heap.size + 1 + 1]? = some (.cells (ar .u64 5 c) 48 (0, 0))
section
variable {w wx : World} {v c : Nat → Int}
theorem CQ.drew (h : CQ w v c wx) : CQ w v c wx.drew := ⟨h.old.drew, h.r0, h.r1, h.r2⟩
theorem CQ.lda (h : CQ w v c wx) (x y : Nat) (hx : x < 5) (hy : y < 5) (z : Int) (hz : v (x + 5 * y) = z) : (Instr.loadAt 34 (.pointer (some ⟨w.heap.size, 5 * x + y, none⟩))).run Tryd.prog wx = .ok (.int .u64 z) wx :=
  kload _ _ _ _ (by rw [← hz, ← tp_at v hy]; exact (cell_of_row wx _ _ _ _ _ h.r0).trans (ar_at _ _ _ _ (by omega)))
theorem CQ.ldc (h : CQ w v c wx) (x : Nat) (hx : x < 5) (z : Int) (hz : c x = z) : (Instr.loadAt 34 (.pointer (some ⟨w.heap.size + 1 + 1, x, none⟩))).run Tryd.prog wx = .ok (.int .u64 z) wx :=
  kload _ _ _ _ (by rw [← hz]; exact (cell_of_row wx _ _ _ _ _ h.r2).trans (ar_at _ _ _ _ (by omega)))
theorem CQ.setc (h : CQ w v c wx) (x : Nat) (hx : x < 5) (z : Int) : CQ w v (updI c x z) (wx.setCell ⟨w.heap.size + 1 + 1, x, none⟩ (.int .u64 z)) :=
  ⟨h.old.setCell (by show w.heap.size ≤ w.heap.size + 1 + 1; omega) _, (heap_setCell_other _ _ _ _ (by show w.heap.size ≠ w.heap.size + 1 + 1; omega)).trans h.r0, (heap_setCell_other _ _ _ _ (by show w.heap.size + 1 ≠ w.heap.size + 1 + 1; omega)).trans h.r1, (heap_setCell_same _ _ _ _ _ _ h.r2).trans (by rw [ar_set _ _ _ _ _ hx])⟩
end
/-- And the moved state at S + 3. -/
structure CQ3 (w : World) (v c b : Nat → Int) (wx : World) : Prop where
  q : CQ w v c wx
  r3 : wx.heap[w.heap.size + 1 + 1 + 1]? = some (.cells (ar .u64 25 (tp b)) 49 (0, 0))
section
variable {w wx : World} {v c b : Nat → Int}
theorem CQ3.drew (h : CQ3 w v c b wx) : CQ3 w v c b wx.drew := ⟨h.q.drew, h.r3⟩
theorem CQ3.ldb (h : CQ3 w v c b wx) (x y : Nat) (hx : x < 5) (hy : y < 5) (z : Int) (hz : b (x + 5 * y) = z) : (Instr.loadAt 34 (.pointer (some ⟨w.heap.size + 1 + 1 + 1, 5 * x + y, none⟩))).run Tryd.prog wx = .ok (.int .u64 z) wx :=
  kload _ _ _ _ (by rw [← hz, ← tp_at b hy]; exact (cell_of_row wx _ _ _ _ _ h.r3).trans (ar_at _ _ _ _ (by omega)))
theorem CQ3.seta (h : CQ3 w v c b wx) (x y : Nat) (hx : x < 5) (hy : y < 5) (z : Int) : CQ3 w (updI v (x + 5 * y) z) c b (wx.setCell ⟨w.heap.size, 5 * x + y, none⟩ (.int .u64 z)) :=
  ⟨⟨h.q.old.setCell (Nat.le_refl _) _, (heap_setCell_same _ _ _ _ _ _ h.q.r0).trans (by rw [tp_set v hx hy]), (heap_setCell_other _ _ _ _ (by show w.heap.size + 1 ≠ w.heap.size; omega)).trans h.q.r1, (heap_setCell_other _ _ _ _ (by show w.heap.size + 1 + 1 ≠ w.heap.size; omega)).trans h.q.r2⟩,
    (heap_setCell_other _ _ _ _ (by show w.heap.size + 1 + 1 + 1 ≠ w.heap.size; omega)).trans h.r3⟩
theorem CQ3.setb (h : CQ3 w v c b wx) (x y : Nat) (hx : x < 5) (hy : y < 5) (z : Int) : CQ3 w v c (updI b (x + 5 * y) z) (wx.setCell ⟨w.heap.size + 1 + 1 + 1, 5 * x + y, none⟩ (.int .u64 z)) :=
  ⟨⟨h.q.old.setCell (by show w.heap.size ≤ w.heap.size + 1 + 1 + 1; omega) _, (heap_setCell_other _ _ _ _ (by show w.heap.size ≠ w.heap.size + 1 + 1 + 1; omega)).trans h.q.r0, (heap_setCell_other _ _ _ _ (by show w.heap.size + 1 ≠ w.heap.size + 1 + 1 + 1; omega)).trans h.q.r1, (heap_setCell_other _ _ _ _ (by show w.heap.size + 1 + 1 ≠ w.heap.size + 1 + 1 + 1; omega)).trans h.q.r2⟩,
    (heap_setCell_same _ _ _ _ _ _ h.r3).trans (by rw [tp_set b hx hy])⟩
theorem CQ3.to (h : CQ3 w v c b wx) {u : Nat → Int} (e : ar .u64 25 (tp v) = ar .u64 25 (tp u)) : CQ3 w u c b wx := ⟨⟨h.q.old, by rw [← e]; exact h.q.r0, h.q.r1, h.q.r2⟩, h.r3⟩
theorem CQ3.tob (h : CQ3 w v c b wx) {u : Nat → Int} (e : ar .u64 25 (tp b) = ar .u64 25 (tp u)) : CQ3 w v c u wx := ⟨h.q, by rw [← e]; exact h.r3⟩
end
theorem info25 : (Tryd.prog.info? 49).map (·.size) = some 25 := by kernel_rfl
theorem info5q : (Tryd.prog.info? 48).map (·.size) = some 5 := by kernel_rfl
theorem krr_start (w : World) (v : Nat → Int) : CQ w v (cD v 0 0) (((w.alloc (.cells (ar .u64 25 (tp v)) 49)).alloc (.cells #[.int .u64 0, .int .u64 0, .int .u64 0, .int .u64 0, .int .u64 0, .int .u64 0, .int .u64 0, .int .u64 0, .int .u64 0, .int .u64 0, .int .u64 0, .int .u64 0, .int .u64 0, .int .u64 0, .int .u64 0, .int .u64 0, .int .u64 0, .int .u64 0, .int .u64 0, .int .u64 0, .int .u64 0, .int .u64 0, .int .u64 0, .int .u64 0, .int .u64 0] 49)).alloc (.cells #[.int .u64 0, .int .u64 0, .int .u64 0, .int .u64 0, .int .u64 0] 48)) := by
  have h := heap3 w (.cells (ar .u64 25 (tp v)) 49) (.cells #[.int .u64 0, .int .u64 0, .int .u64 0, .int .u64 0, .int .u64 0, .int .u64 0, .int .u64 0, .int .u64 0, .int .u64 0, .int .u64 0, .int .u64 0, .int .u64 0, .int .u64 0, .int .u64 0, .int .u64 0, .int .u64 0, .int .u64 0, .int .u64 0, .int .u64 0, .int .u64 0, .int .u64 0, .int .u64 0, .int .u64 0, .int .u64 0, .int .u64 0] 49) (.cells #[.int .u64 0, .int .u64 0, .int .u64 0, .int .u64 0, .int .u64 0] 48)
  exact ⟨by go_grown, h.1, by rw [z25_row]; exact h.2.1, by rw [z5_0]; exact h.2.2⟩
theorem krr_b {w wx : World} {v c : Nat → Int} (h : CQ w v c wx) (hs : wx.heap.size = w.heap.size + 1 + 1 + 1) : (wx.alloc (.cells #[.int .u64 0, .int .u64 0, .int .u64 0, .int .u64 0, .int .u64 0, .int .u64 0, .int .u64 0, .int .u64 0, .int .u64 0, .int .u64 0, .int .u64 0, .int .u64 0, .int .u64 0, .int .u64 0, .int .u64 0, .int .u64 0, .int .u64 0, .int .u64 0, .int .u64 0, .int .u64 0, .int .u64 0, .int .u64 0, .int .u64 0, .int .u64 0, .int .u64 0] 49)).heap[w.heap.size + 1 + 1 + 1]? = some (.cells #[.int .u64 0, .int .u64 0, .int .u64 0, .int .u64 0, .int .u64 0, .int .u64 0, .int .u64 0, .int .u64 0, .int .u64 0, .int .u64 0, .int .u64 0, .int .u64 0, .int .u64 0, .int .u64 0, .int .u64 0, .int .u64 0, .int .u64 0, .int .u64 0, .int .u64 0, .int .u64 0, .int .u64 0, .int .u64 0, .int .u64 0, .int .u64 0, .int .u64 0] 49 (0, 0)) ∧ CQ3 w v c (fun _ => 0) ((wx.alloc (.cells #[.int .u64 0, .int .u64 0, .int .u64 0, .int .u64 0, .int .u64 0, .int .u64 0, .int .u64 0, .int .u64 0, .int .u64 0, .int .u64 0, .int .u64 0, .int .u64 0, .int .u64 0, .int .u64 0, .int .u64 0, .int .u64 0, .int .u64 0, .int .u64 0, .int .u64 0, .int .u64 0, .int .u64 0, .int .u64 0, .int .u64 0, .int .u64 0, .int .u64 0] 49)).setRow (w.heap.size + 1 + 1 + 1) (ar .u64 25 (tp fun _ => 0))) := by
  have h1 : (wx.alloc (.cells #[.int .u64 0, .int .u64 0, .int .u64 0, .int .u64 0, .int .u64 0, .int .u64 0, .int .u64 0, .int .u64 0, .int .u64 0, .int .u64 0, .int .u64 0, .int .u64 0, .int .u64 0, .int .u64 0, .int .u64 0, .int .u64 0, .int .u64 0, .int .u64 0, .int .u64 0, .int .u64 0, .int .u64 0, .int .u64 0, .int .u64 0, .int .u64 0, .int .u64 0] 49)).heap[w.heap.size + 1 + 1 + 1]? = some (.cells #[.int .u64 0, .int .u64 0, .int .u64 0, .int .u64 0, .int .u64 0, .int .u64 0, .int .u64 0, .int .u64 0, .int .u64 0, .int .u64 0, .int .u64 0, .int .u64 0, .int .u64 0, .int .u64 0, .int .u64 0, .int .u64 0, .int .u64 0, .int .u64 0, .int .u64 0, .int .u64 0, .int .u64 0, .int .u64 0, .int .u64 0, .int .u64 0, .int .u64 0] 49 (0, 0)) := by
    rw [← hs]
    exact heap_alloc_new _ _
  exact ⟨h1, ⟨below_setRow (h.old.alloc (by omega) _) (by omega) _, (setRow_other _ _ _ _ (by omega)).trans ((heap_alloc_old _ _ (by omega)).trans h.r0), (setRow_other _ _ _ _ (by omega)).trans ((heap_alloc_old _ _ (by omega)).trans h.r1), (setRow_other _ _ _ _ (by omega)).trans ((heap_alloc_old _ _ (by omega)).trans h.r2)⟩, setRow_heap _ _ _ _ _ _ h1⟩
theorem z25_val : (.agg #[.int .u64 0, .int .u64 0, .int .u64 0, .int .u64 0, .int .u64 0, .int .u64 0, .int .u64 0, .int .u64 0, .int .u64 0, .int .u64 0, .int .u64 0, .int .u64 0, .int .u64 0, .int .u64 0, .int .u64 0, .int .u64 0, .int .u64 0, .int .u64 0, .int .u64 0, .int .u64 0, .int .u64 0, .int .u64 0, .int .u64 0, .int .u64 0, .int .u64 0] : Value) = .agg (ar .u64 25 (tp fun _ => 0)) := by rw [z25_row]
set_option maxRecDepth 100000 in
set_option maxHeartbeats 8000000 in
-- A ROUND.
theorem krr (v : Nat → Int) (hv : ∀ i, i < 25 → 0 ≤ v i ∧ v i < 18446744073709551616) (w : World) : Calls Tryd.prog 29 #[.agg (ar .u64 25 (tp v))] w fun e w' => e = .returned (.agg (ar .u64 25 (tp (kch (kmv (kth v)))))) ∧ Below w.heap.size w w' := by
  have HV := Lib.hid hv; clear hv
  have HQ0 := Lib.hid (krr_start w v)
  go_enter Tryd.func29, Tryd.ntmps29
  go_wp2_with fail
  go_loopw [4] (fun i wr => ∃ x : Nat, x ≤ 5 ∧ i = .int .i64 x ∧ Hid (wr.heap.size = w.heap.size + 1 + 1 + 1 ∧ CQ w v (cD v x 0) wr)) (fun i _ => 5 - (intOf i).toNat)
  case atStart => exact ⟨0, by omega, rfl, Lib.hid ⟨by simp, HQ0.out⟩⟩
  case round =>
    obtain ⟨x, hx, rfl, H⟩ := hrel
    clear HQ0
    have hx0 : (0 : Int) ≤ x := by omega
    by_cases hlx : x < 5
    · have hlx' : (x : Int) < 5 := by omega
      have HX := Lib.hid hlx
      go_wp2_with fail
      go_loopw [5] (fun i wr => ∃ y : Nat, y ≤ 5 ∧ i = .int .i64 y ∧ Hid (wr.heap.size = w.heap.size + 1 + 1 + 1 ∧ CQ w v (cD v x y) wr)) (fun i _ => 5 - (intOf i).toNat)
      case atStart => exact ⟨0, by omega, rfl, H⟩
      case round =>
        obtain ⟨y, hy, rfl, H1⟩ := hrel
        clear H
        have hy0 : (0 : Int) ≤ y := by omega
        by_cases hly : y < 5
        · have hly' : (y : Int) < 5 := by omega
          have HY := Lib.hid hly
          have HN := Lib.hid (cD_next v x y)
          obtain ⟨z0, hz0⟩ : ∃ z, cD v x y x = z := ⟨_, rfl⟩
          obtain ⟨z1, hz1⟩ : ∃ z, v (x + 5 * y) = z := ⟨_, rfl⟩
          rw [hz0, hz1] at HN
          have HZ := Lib.hid (And.intro hz0 hz1)
          clear hz0 hz1
          have HS := Lib.hid (show ∀ wx, CQ w v (cD v x y) wx → wx.heap[w.heap.size + 1 + 1]? = some (.cells (ar .u64 5 (cD v x y)) 48 (0, 0)) from fun _ h => h.r2)
          go_wp2_with fail
          refine region_quiet_tail 11 (fun wx => wx.heap.size = w.heap.size + 1 + 1 + 1 ∧ CQ w v (cD v x y) wx) (by kernel_rfl) (by kernel_rfl) ⟨H1.out.1, H1.out.2.drew⟩ ?_
          simp only [List.take_succ_cons, List.take_zero, List.drop_succ_cons, List.drop_zero]
          with_reducible refine q_val (.int .i64 (x : Nat)) (by kernel_rfl) (fun _ _ => by kernel_rfl) ?_
          with_reducible refine q_val (.int .i64 (x : Nat)) (by kernel_rfl) (fun _ _ => by kernel_rfl) ?_
          with_reducible refine q_v (Instr.indexAt 48 (.pointer (some ⟨w.heap.size + 1 + 1, 0, none⟩)) (.int .i64 (x : Nat))) (.pointer (some ⟨w.heap.size + 1 + 1, x, none⟩)) (by kernel_rfl) (by kernel_rfl) (fun wz _ => ix5z (w.heap.size + 1 + 1) x HX.out wz) ?_
          with_reducible refine q_load 34 (.tmp 25) (.pointer (some ⟨w.heap.size + 1 + 1, x, none⟩)) (.int .u64 z0) rfl (by kernel_rfl) (by kernel_rfl) (fun _ h => h.2.ldc x HX.out _ HZ.out.1) ?_
          with_reducible refine q_val (.int .i64 (x : Nat)) (by kernel_rfl) (fun _ _ => by kernel_rfl) ?_
          with_reducible refine q_val (.int .i64 (y : Nat)) (by kernel_rfl) (fun _ _ => by kernel_rfl) ?_
          with_reducible refine q_v (Instr.indexAt 49 (.pointer (some ⟨w.heap.size, 0, none⟩)) (.int .i64 (x : Nat))) (.pointer (some ⟨w.heap.size, 5 * x, none⟩)) (by kernel_rfl) (by kernel_rfl) (fun wz _ => ix25 (w.heap.size) x HX.out wz) ?_
          with_reducible refine q_v (Instr.indexAt 48 (.pointer (some ⟨w.heap.size, 5 * x, none⟩)) (.int .i64 (y : Nat))) (.pointer (some ⟨w.heap.size, 5 * x + y, none⟩)) (by kernel_rfl) (by kernel_rfl) (fun wz _ => ix5 (w.heap.size) (5 * x) y HY.out wz) ?_
          with_reducible refine q_load 34 (.tmp 30) (.pointer (some ⟨w.heap.size, 5 * x + y, none⟩)) (.int .u64 z1) rfl (by kernel_rfl) (by kernel_rfl) (fun _ h => h.2.lda x y HX.out HY.out _ HZ.out.2) ?_
          with_reducible refine q_val (.int .u64 (bits .xor .u64 z0 z1)) (by kernel_rfl) (fun _ _ => by kernel_rfl) ?_
          with_reducible refine q_v (Instr.indexAt 48 (.pointer (some ⟨w.heap.size + 1 + 1, 0, none⟩)) (.int .i64 (x : Nat))) (.pointer (some ⟨w.heap.size + 1 + 1, x, none⟩)) (by kernel_rfl) (by kernel_rfl) (fun wz _ => ix5z (w.heap.size + 1 + 1) x HX.out wz) ?_
          with_reducible refine wpQuiet_nil ?_
          intro w1 hCx
          simp only [Act.put, List.setIfInBounds_toArray, List.set_cons_succ, List.set_cons_zero]
          have co := (cell_of_row w1 _ x _ _ _ hCx.2.r2).trans (ar_at _ _ _ _ HX.out)
          have fo := frozen_of_row _ _ x _ _ hCx.2.r2
          have H2 := Lib.hid (show (w1.setCell ⟨w.heap.size + 1 + 1, x, none⟩ (.int .u64 (bits .xor .u64 z0 z1))).heap.size = w.heap.size + 1 + 1 + 1 ∧ CQ w v (cD v x (y + 1)) (w1.setCell ⟨w.heap.size + 1 + 1, x, none⟩ (.int .u64 (bits .xor .u64 z0 z1))) from ⟨by simpa using hCx.1, by rw [← HN.out]; exact hCx.2.setc x HX.out _⟩)
          clear hCx H1 HS
          go_wp2_with fail
          go_roundw
          case rel => exact ⟨y + 1, by omega, by go_num, H2⟩
          case measure => simp [intOf]; omega
        · obtain rfl : y = 5 := by omega
          have H2 := Lib.hid (show wr.heap.size = w.heap.size + 1 + 1 + 1 ∧ CQ w v (cD v (x + 1) 0) wr from by rw [← cD_row]; exact H1.out)
          clear H1
          go_wp2_with fail
          go_roundw
          case rel => exact ⟨x + 1, by omega, by go_num, H2⟩
          case measure => simp [intOf]; omega
    · obtain rfl : x = 5 := by omega
      have hCC : ∀ j, j < 5 → cD v 5 0 j = kcl v j := fun j hj => by
        unfold cD
        rw [if_pos hj]
        exact cpt_5 v j (HV.out j (by omega))
      have HC5 := Lib.hid (show ar .u64 5 (cD v 5 0) = ar .u64 5 (kcl v) from ar_congr hCC)
      have h3 := krr_b (w := w) (wx := wr) (v := v) (c := kcl v) ⟨H.out.2.old, H.out.2.r0, H.out.2.r1, by rw [← HC5.out]; exact H.out.2.r2⟩ H.out.1
      have H3 := Lib.hid (h3.2.to (tD_0 v).symm)
      have HR3 := Lib.hid h3.1
      have HZ3 := Lib.hid z25_val
      have HI3 : Hid ((Tryd.prog.info? 49).map (·.size) = some (ar .u64 25 (tp fun _ => 0)).size) := Lib.hid (by rw [ar_size]; exact info25)
      clear hCC h3 HC5
      have hsz := H.out.1
      clear H
      go_wp2_with (refine wpList_store_row rfl 49 _ _ rfl (w.heap.size + 1 + 1 + 1) (ar .u64 25 (tp fun _ => 0)) rfl HZ3.out 49 _ HR3.out HI3.out (by rw [ar_size]; rfl) (ar_one _ _ _) ?_)
      go_loopw [7] (fun i wr => ∃ x : Nat, x ≤ 5 ∧ i = .int .i64 x ∧ Hid (CQ3 w (tD v x 0) (kcl v) (fun _ => 0) wr)) (fun i _ => 5 - (intOf i).toNat)
      case atStart => exact ⟨0, by omega, rfl, H3⟩
      case round =>
        obtain ⟨x, hx, rfl, H⟩ := hrel
        clear H3 hsz HR3 HZ3 HI3
        have hx0 : (0 : Int) ≤ x := by omega
        by_cases hlx : x < 5
        · have hlx' : (x : Int) < 5 := by omega
          have HX := Lib.hid hlx
          go_wp2_with fail
          go_loopw [8] (fun i wr => ∃ y : Nat, y ≤ 5 ∧ i = .int .i64 y ∧ Hid (CQ3 w (tD v x y) (kcl v) (fun _ => 0) wr)) (fun i _ => 5 - (intOf i).toNat)
          case atStart => exact ⟨0, by omega, rfl, H⟩
          case round =>
            obtain ⟨y, hy, rfl, H1⟩ := hrel
            clear H
            have hy0 : (0 : Int) ≤ y := by omega
            by_cases hly : y < 5
            · have hly' : (y : Int) < 5 := by omega
              have HY := Lib.hid hly
              have HN := Lib.hid (And.intro (tD_next v (y := y) hlx) (And.intro (tD_at v x y hlx) (kth_of v x y hlx hly)))
              obtain ⟨x1, hx1⟩ : ∃ z, (x + 1) % 5 = z := ⟨_, rfl⟩
              obtain ⟨x4, hx4⟩ : ∃ z, (x + 4) % 5 = z := ⟨_, rfl⟩
              have HX1 := Lib.hid (show x1 < 5 by omega)
              have HX4 := Lib.hid (show x4 < 5 by omega)
              obtain ⟨z0, hz0⟩ : ∃ z, v (x + 5 * y) = z := ⟨_, rfl⟩
              obtain ⟨z1, hz1⟩ : ∃ z, kcl v x1 = z := ⟨_, rfl⟩
              obtain ⟨z4, hz4⟩ : ∃ z, kcl v x4 = z := ⟨_, rfl⟩
              rw [hx1, hx4, hz0, hz1, hz4] at HN
              have HZ := Lib.hid (And.intro hz1 hz4)
              have e1 : ∀ w, (binOp BinOp.rem 3 (.int .i64 ((x : Int) + 1)) (.int .i64 5)).run Tryd.prog w = .ok (.int .i64 (x1 : Nat)) w := by
                have hq : x = 0 ∨ x = 1 ∨ x = 2 ∨ x = 3 ∨ x = 4 := by omega
                rw [← hx1]
                rcases hq with rfl | rfl | rfl | rfl | rfl <;> exact fun w => by kernel_rfl
              have e4 : ∀ w, (binOp BinOp.rem 3 (.int .i64 ((x : Int) + 4)) (.int .i64 5)).run Tryd.prog w = .ok (.int .i64 (x4 : Nat)) w := by
                have hq : x = 0 ∨ x = 1 ∨ x = 2 ∨ x = 3 ∨ x = 4 := by omega
                rw [← hx4]
                rcases hq with rfl | rfl | rfl | rfl | rfl <;> exact fun w => by kernel_rfl
              have a1 : ∀ w, (binOp BinOp.add 3 (.int .i64 x) (.int .i64 1)).run Tryd.prog w = .ok (.int .i64 ((x : Int) + 1)) w := by
                have hq : x = 0 ∨ x = 1 ∨ x = 2 ∨ x = 3 ∨ x = 4 := by omega
                rcases hq with rfl | rfl | rfl | rfl | rfl <;> exact fun w => by kernel_rfl
              have a4 : ∀ w, (binOp BinOp.add 3 (.int .i64 x) (.int .i64 4)).run Tryd.prog w = .ok (.int .i64 ((x : Int) + 4)) w := by
                have hq : x = 0 ∨ x = 1 ∨ x = 2 ∨ x = 3 ∨ x = 4 := by omega
                rcases hq with rfl | rfl | rfl | rfl | rfl <;> exact fun w => by kernel_rfl
              have E1 := Lib.hid e1
              have E4 := Lib.hid e4
              have A1 := Lib.hid a1
              have A4 := Lib.hid a4
              clear hx1 hx4 hz0 hz1 hz4 e1 e4 a1 a4
              go_wp2_with fail
              refine region_quiet_tail 22 (CQ3 w (tD v x y) (kcl v) (fun _ => 0)) (by kernel_rfl) (by kernel_rfl) H1.out.drew ?_
              simp only [List.take_succ_cons, List.take_zero, List.drop_succ_cons, List.drop_zero]
              with_reducible refine q_val (.int .i64 (x : Nat)) (by kernel_rfl) (fun _ _ => by kernel_rfl) ?_
              with_reducible refine q_val (.int .i64 (y : Nat)) (by kernel_rfl) (fun _ _ => by kernel_rfl) ?_
              with_reducible refine q_val (.int .i64 (x : Nat)) (by kernel_rfl) (fun _ _ => by kernel_rfl) ?_
              with_reducible refine q_val (.int .i64 (y : Nat)) (by kernel_rfl) (fun _ _ => by kernel_rfl) ?_
              with_reducible refine q_v (Instr.indexAt 49 (.pointer (some ⟨w.heap.size, 0, none⟩)) (.int .i64 (x : Nat))) (.pointer (some ⟨w.heap.size, 5 * x, none⟩)) (by kernel_rfl) (by kernel_rfl) (fun wz _ => ix25 (w.heap.size) x HX.out wz) ?_
              with_reducible refine q_v (Instr.indexAt 48 (.pointer (some ⟨w.heap.size, 5 * x, none⟩)) (.int .i64 (y : Nat))) (.pointer (some ⟨w.heap.size, 5 * x + y, none⟩)) (by kernel_rfl) (by kernel_rfl) (fun wz _ => ix5 (w.heap.size) (5 * x) y HY.out wz) ?_
              with_reducible refine q_load 34 (.tmp 48) (.pointer (some ⟨w.heap.size, 5 * x + y, none⟩)) (.int .u64 z0) rfl (by kernel_rfl) (by kernel_rfl) (fun _ h => h.q.lda x y HX.out HY.out _ HN.out.2.1) ?_
              with_reducible refine q_val (.int .i64 (x : Nat)) (by kernel_rfl) (fun _ _ => by kernel_rfl) ?_
              with_reducible refine q_v (binOp BinOp.add 3 (.int .i64 x) (.int .i64 4)) (.int .i64 ((x : Int) + 4)) (by kernel_rfl) (by kernel_rfl) (fun wz _ => A4.out wz) ?_
              with_reducible refine q_v (binOp BinOp.rem 3 (.int .i64 ((x : Int) + 4)) (.int .i64 5)) (.int .i64 (x4 : Nat)) (by kernel_rfl) (by kernel_rfl) (fun wz _ => E4.out wz) ?_
              with_reducible refine q_v (Instr.indexAt 48 (.pointer (some ⟨w.heap.size + 1 + 1, 0, none⟩)) (.int .i64 (x4 : Nat))) (.pointer (some ⟨w.heap.size + 1 + 1, x4, none⟩)) (by kernel_rfl) (by kernel_rfl) (fun wz _ => ix5z (w.heap.size + 1 + 1) x4 HX4.out wz) ?_
              with_reducible refine q_load 34 (.tmp 53) (.pointer (some ⟨w.heap.size + 1 + 1, x4, none⟩)) (.int .u64 z4) rfl (by kernel_rfl) (by kernel_rfl) (fun _ h => h.q.ldc x4 HX4.out _ HZ.out.2) ?_
              with_reducible refine q_val (.int .u64 (bits .xor .u64 z0 z4)) (by kernel_rfl) (fun _ _ => by kernel_rfl) ?_
              with_reducible refine q_val (.int .i64 (x : Nat)) (by kernel_rfl) (fun _ _ => by kernel_rfl) ?_
              with_reducible refine q_v (binOp BinOp.add 3 (.int .i64 x) (.int .i64 1)) (.int .i64 ((x : Int) + 1)) (by kernel_rfl) (by kernel_rfl) (fun wz _ => A1.out wz) ?_
              with_reducible refine q_v (binOp BinOp.rem 3 (.int .i64 ((x : Int) + 1)) (.int .i64 5)) (.int .i64 (x1 : Nat)) (by kernel_rfl) (by kernel_rfl) (fun wz _ => E1.out wz) ?_
              with_reducible refine q_v (Instr.indexAt 48 (.pointer (some ⟨w.heap.size + 1 + 1, 0, none⟩)) (.int .i64 (x1 : Nat))) (.pointer (some ⟨w.heap.size + 1 + 1, x1, none⟩)) (by kernel_rfl) (by kernel_rfl) (fun wz _ => ix5z (w.heap.size + 1 + 1) x1 HX1.out wz) ?_
              with_reducible refine q_load 34 (.tmp 59) (.pointer (some ⟨w.heap.size + 1 + 1, x1, none⟩)) (.int .u64 z1) rfl (by kernel_rfl) (by kernel_rfl) (fun _ h => h.q.ldc x1 HX1.out _ HZ.out.1) ?_
              with_reducible refine q_call 42 #[.int .u64 z1, .int .i64 1] (.int .u64 (rul 1 z1)) (by kernel_rfl) (fun _ => by kernel_rfl) (fun wx h => (up_any z1 1 (by decide) wx).mono fun e w' hh => ⟨hh.1, by rw [hh.2]; exact h⟩) ?_
              with_reducible refine q_val (.int .u64 (bits .xor .u64 (bits .xor .u64 z0 z4) (rul 1 z1))) (by kernel_rfl) (fun _ _ => by kernel_rfl) ?_
              with_reducible refine q_v (Instr.indexAt 49 (.pointer (some ⟨w.heap.size, 0, none⟩)) (.int .i64 (x : Nat))) (.pointer (some ⟨w.heap.size, 5 * x, none⟩)) (by kernel_rfl) (by kernel_rfl) (fun wz _ => ix25 (w.heap.size) x HX.out wz) ?_
              with_reducible refine q_v (Instr.indexAt 48 (.pointer (some ⟨w.heap.size, 5 * x, none⟩)) (.int .i64 (y : Nat))) (.pointer (some ⟨w.heap.size, 5 * x + y, none⟩)) (by kernel_rfl) (by kernel_rfl) (fun wz _ => ix5 (w.heap.size) (5 * x) y HY.out wz) ?_
              with_reducible refine wpQuiet_nil ?_
              intro w1 hCx
              simp only [Act.put, List.setIfInBounds_toArray, List.set_cons_succ, List.set_cons_zero]
              rw [HN.out.2.2]
              have hsa := hCx.seta x y HX.out HY.out (kth v (x + 5 * y))
              have co := (cell_of_row w1 _ (5 * x + y) _ _ _ hCx.q.r0).trans (ar_at _ _ _ _ (by omega))
              have fo := frozen_of_row _ _ (5 * x + y) _ _ hCx.q.r0
              have H2 := Lib.hid (hsa.to HN.out.1)
              clear hCx H1 hsa
              go_wp2_with fail
              go_roundw
              case rel => exact ⟨y + 1, by omega, by go_num, H2⟩
              case measure => simp [intOf]; omega
            · obtain rfl : y = 5 := by omega
              have H2 := Lib.hid (H1.out.to (tD_row v x))
              clear H1
              go_wp2_with fail
              go_roundw
              case rel => exact ⟨x + 1, by omega, by go_num, H2⟩
              case measure => simp [intOf]; omega
        · obtain rfl : x = 5 := by omega
          have H1 := Lib.hid (H.out.to (tD_5 v))
          clear H
          have hru : ∀ i, i < 25 → 0 ≤ kth v i ∧ kth v i < 18446744073709551616 := kth_rng v
          obtain ⟨u, hu⟩ : ∃ u, kth v = u := ⟨_, rfl⟩
          rw [hu] at H1 hru
          have HU := Lib.hid (And.intro hu hru)
          clear hu hru
          have c0 := (cell_of_row wr _ 0 _ _ _ H1.out.q.r0).trans (ar_at _ _ _ _ (by decide))
          rw [show tp u 0 = u 0 from rfl] at c0
          have c3 := (cell_of_row wr _ 0 _ _ _ H1.out.r3).trans (ar_at _ _ _ _ (by decide))
          have f3 := frozen_of_row _ _ 0 _ _ H1.out.r3
          have hsb := H1.out.setb 0 0 (by decide) (by decide) (u 0)
          have H2 := Lib.hid (hsb.tob (u := mB u 0) (tp_congr fun j hj => by
            unfold updI mB
            rw [if_neg (show ¬ posT j < 0 by omega)]))
          clear H1 hsb
          go_wp2_with fail
          go_loopw [9, 10, 11] (fun a b i wr => ∃ t : Nat, t ≤ 24 ∧ i = .int .i64 t ∧ a = .int .i64 (lanT t % 5 : Nat) ∧ b = .int .i64 (lanT t / 5 : Nat) ∧ Hid (CQ3 w u (kcl v) (mB u t) wr)) (fun _ _ i _ => 24 - (intOf i).toNat)
          case atStart => exact ⟨0, by omega, rfl, rfl, rfl, H2⟩
          case round =>
            obtain ⟨t, ht, rfl, rfl, rfl, H⟩ := hrel
            clear H2 c0 c3 f3
            have ht0 : (0 : Int) ≤ t := by omega
            by_cases hlt : t < 24
            · have hlt' : (t : Int) < 24 := by omega
              have HL := Lib.hid (And.intro (lan_xy t hlt) (And.intro (pth_all t hlt) (mB_next u t hlt)))
              obtain ⟨x, hx⟩ : ∃ x, lanT t % 5 = x := ⟨_, rfl⟩
              obtain ⟨y, hy⟩ : ∃ x, lanT t / 5 = x := ⟨_, rfl⟩
              obtain ⟨y', hy'⟩ : ∃ x, (2 * (lanT t % 5) + 3 * (lanT t / 5)) % 5 = x := ⟨_, rfl⟩
              obtain ⟨b, hb⟩ : ∃ x, (t + 1) * (t + 2) / 2 = x := ⟨_, rfl⟩
              have hlxy : lanT t = x + 5 * y := by omega
              have HX := Lib.hid (show x < 5 by omega)
              have HY := Lib.hid (show y < 5 by have := HL.out.1.2.1; omega)
              have HY' := Lib.hid (show y' < 5 by omega)
              have hbb : b ≤ 300 := by
                have h1 : (t + 1) * (t + 2) ≤ 24 * 25 := Nat.mul_le_mul (by omega) (by omega)
                omega
              have HB := Lib.hid (show b < 4294967296 by omega)
              obtain ⟨z, hz⟩ : ∃ z, u (x + 5 * y) = z := ⟨_, rfl⟩
              have HZ := Lib.hid hz
              have HNX := Lib.hid (show lanT (t + 1) % 5 = y ∧ lanT (t + 1) / 5 = y' from ⟨HL.out.1.2.2.2.1.trans hy, HL.out.1.2.2.2.2.trans hy'⟩)
              have HM := Lib.hid (show updI (mB u t) (y + 5 * y') (rul b z) = mB u (t + 1) from by
                have h1 := HL.out.2.2
                rw [hb, HL.out.1.2.2.1, hy', hy, hlxy, hz] at h1
                exact h1)
              rw [hx, hy]
              have hx5 := HX.out
              have hy5 := HY.out
              have hy5' := HY'.out
              have m1 : ∀ w, (binOp BinOp.mul 3 (.int .i64 2) (.int .i64 x)).run Tryd.prog w = .ok (.int .i64 (2 * (x : Int))) w := by
                have hq : x = 0 ∨ x = 1 ∨ x = 2 ∨ x = 3 ∨ x = 4 := by omega
                rcases hq with rfl | rfl | rfl | rfl | rfl <;> exact fun w => by kernel_rfl
              have m2 : ∀ w, (binOp BinOp.mul 3 (.int .i64 3) (.int .i64 y)).run Tryd.prog w = .ok (.int .i64 (3 * (y : Int))) w := by
                have hq : y = 0 ∨ y = 1 ∨ y = 2 ∨ y = 3 ∨ y = 4 := by omega
                rcases hq with rfl | rfl | rfl | rfl | rfl <;> exact fun w => by kernel_rfl
              obtain ⟨s, hs⟩ : ∃ s : Nat, 2 * x + 3 * y = s := ⟨_, rfl⟩
              have hsr : s % 5 = y' := by rw [← hs, ← hx, ← hy]; exact hy'
              have m3 : ∀ w, (binOp BinOp.add 3 (.int .i64 (2 * (x : Int))) (.int .i64 (3 * (y : Int)))).run Tryd.prog w = .ok (.int .i64 (s : Nat)) w := by
                have e1 : (2 * (x : Int)) + 3 * (y : Int) = (s : Int) := by omega
                have e2 : IntKind.i64.wrap (s : Int) = s := by rw [IntKind.wrap_i64]; omega
                intro w
                go_simp
              have m4 : ∀ w, (binOp BinOp.rem 3 (.int .i64 (s : Nat)) (.int .i64 5)).run Tryd.prog w = .ok (.int .i64 (y' : Nat)) w := by
                have e1 : (s : Int).tmod 5 = (y' : Int) := by rw [Int.tmod_eq_emod_of_nonneg (by omega)]; omega
                have e2 : (s : Int) % 5 = (y' : Int) := by omega
                have e3 : IntKind.i64.wrap (y' : Int) = y' := by rw [IntKind.wrap_i64]; omega
                intro w
                go_simp
              have m5 : ∀ w, (binOp BinOp.add 3 (.int .i64 t) (.int .i64 1)).run Tryd.prog w = .ok (.int .i64 ((t : Int) + 1)) w := by
                have e2 : IntKind.i64.wrap ((t : Int) + 1) = (t : Int) + 1 := by rw [IntKind.wrap_i64]; omega
                intro w
                go_simp
              have m6 : ∀ w, (binOp BinOp.add 3 (.int .i64 t) (.int .i64 2)).run Tryd.prog w = .ok (.int .i64 ((t : Int) + 2)) w := by
                have e2 : IntKind.i64.wrap ((t : Int) + 2) = (t : Int) + 2 := by rw [IntKind.wrap_i64]; omega
                intro w
                go_simp
              obtain ⟨p, hp⟩ : ∃ p : Nat, (t + 1) * (t + 2) = p := ⟨_, rfl⟩
              have hp6 : p ≤ 600 := by rw [← hp]; exact Nat.mul_le_mul (show t + 1 ≤ 24 by omega) (show t + 2 ≤ 25 by omega)
              have m7 : ∀ w, (binOp BinOp.mul 3 (.int .i64 ((t : Int) + 1)) (.int .i64 ((t : Int) + 2))).run Tryd.prog w = .ok (.int .i64 (p : Nat)) w := by
                have e1 : ((t : Int) + 1) * ((t : Int) + 2) = (p : Int) := by rw [← hp]; simp
                have e2 : IntKind.i64.wrap (p : Int) = p := by rw [IntKind.wrap_i64]; omega
                intro w
                go_simp
              have m8 : ∀ w, (binOp BinOp.quo 3 (.int .i64 (p : Nat)) (.int .i64 2)).run Tryd.prog w = .ok (.int .i64 (b : Nat)) w := by
                have e1 : (p : Int).tdiv 2 = (b : Int) := by rw [Int.tdiv_eq_ediv_of_nonneg (by omega), ← hb, hp]; omega
                have e0 : (p : Int) / 2 = (b : Int) := by rw [← hb, hp]; omega
                have e2 : IntKind.i64.wrap (b : Int) = b := by rw [IntKind.wrap_i64]; omega
                intro w
                go_simp
              have HS5 := Lib.hid (show (2 * (x : Int) + 3 * (y : Int)) % 5 = (y' : Int) by omega)
              have M1 := Lib.hid m1
              have M2 := Lib.hid m2
              have M3 := Lib.hid m3
              have M4 := Lib.hid m4
              have M5 := Lib.hid m5
              have M6 := Lib.hid m6
              have M7 := Lib.hid m7
              have M8 := Lib.hid m8
              clear m1 m2 m3 m4 m5 m6 m7 m8 hs hsr hp hp6 hx hy hy' hb hlxy hbb hz HL
              go_wp2_with fail
              refine region_quiet_tail 21 (CQ3 w u (kcl v) (mB u t)) (by kernel_rfl) (by kernel_rfl) H.out.drew ?_
              simp only [List.take_succ_cons, List.take_zero, List.drop_succ_cons, List.drop_zero]
              with_reducible refine q_val (.int .i64 (y : Nat)) (by kernel_rfl) (fun _ _ => by kernel_rfl) ?_
              with_reducible refine q_val (.int .i64 (x : Nat)) (by kernel_rfl) (fun _ _ => by kernel_rfl) ?_
              with_reducible refine q_v (binOp BinOp.mul 3 (.int .i64 2) (.int .i64 x)) (.int .i64 (2 * (x : Int))) (by kernel_rfl) (by kernel_rfl) (fun wz _ => M1.out wz) ?_
              with_reducible refine q_val (.int .i64 (y : Nat)) (by kernel_rfl) (fun _ _ => by kernel_rfl) ?_
              with_reducible refine q_v (binOp BinOp.mul 3 (.int .i64 3) (.int .i64 y)) (.int .i64 (3 * (y : Int))) (by kernel_rfl) (by kernel_rfl) (fun wz _ => M2.out wz) ?_
              with_reducible refine q_v (binOp BinOp.add 3 (.int .i64 (2 * (x : Int))) (.int .i64 (3 * (y : Int)))) (.int .i64 (s : Nat)) (by kernel_rfl) (by kernel_rfl) (fun wz _ => M3.out wz) ?_
              with_reducible refine q_v (binOp BinOp.rem 3 (.int .i64 (s : Nat)) (.int .i64 5)) (.int .i64 (y' : Nat)) (by kernel_rfl) (by kernel_rfl) (fun wz _ => M4.out wz) ?_
              with_reducible refine q_val (.int .i64 (x : Nat)) (by kernel_rfl) (fun _ _ => by kernel_rfl) ?_
              with_reducible refine q_val (.int .i64 (y : Nat)) (by kernel_rfl) (fun _ _ => by kernel_rfl) ?_
              with_reducible refine q_v (Instr.indexAt 49 (.pointer (some ⟨w.heap.size, 0, none⟩)) (.int .i64 (x : Nat))) (.pointer (some ⟨w.heap.size, 5 * x, none⟩)) (by kernel_rfl) (by kernel_rfl) (fun wz _ => ix25 (w.heap.size) x HX.out wz) ?_
              with_reducible refine q_v (Instr.indexAt 48 (.pointer (some ⟨w.heap.size, 5 * x, none⟩)) (.int .i64 (y : Nat))) (.pointer (some ⟨w.heap.size, 5 * x + y, none⟩)) (by kernel_rfl) (by kernel_rfl) (fun wz _ => ix5 (w.heap.size) (5 * x) y HY.out wz) ?_
              with_reducible refine q_load 34 (.tmp 84) (.pointer (some ⟨w.heap.size, 5 * x + y, none⟩)) (.int .u64 z) rfl (by kernel_rfl) (by kernel_rfl) (fun _ h => h.q.lda x y HX.out HY.out _ HZ.out) ?_
              with_reducible refine q_val (.int .i64 (t : Nat)) (by kernel_rfl) (fun _ _ => by kernel_rfl) ?_
              with_reducible refine q_v (binOp BinOp.add 3 (.int .i64 t) (.int .i64 1)) (.int .i64 ((t : Int) + 1)) (by kernel_rfl) (by kernel_rfl) (fun wz _ => M5.out wz) ?_
              with_reducible refine q_val (.int .i64 (t : Nat)) (by kernel_rfl) (fun _ _ => by kernel_rfl) ?_
              with_reducible refine q_v (binOp BinOp.add 3 (.int .i64 t) (.int .i64 2)) (.int .i64 ((t : Int) + 2)) (by kernel_rfl) (by kernel_rfl) (fun wz _ => M6.out wz) ?_
              with_reducible refine q_v (binOp BinOp.mul 3 (.int .i64 ((t : Int) + 1)) (.int .i64 ((t : Int) + 2))) (.int .i64 (p : Nat)) (by kernel_rfl) (by kernel_rfl) (fun wz _ => M7.out wz) ?_
              with_reducible refine q_v (binOp BinOp.quo 3 (.int .i64 (p : Nat)) (.int .i64 2)) (.int .i64 (b : Nat)) (by kernel_rfl) (by kernel_rfl) (fun wz _ => M8.out wz) ?_
              with_reducible refine q_call 42 #[.int .u64 z, .int .i64 b] (.int .u64 (rul b z)) (by kernel_rfl) (fun _ => by kernel_rfl) (fun wx h => (up_any z b HB.out wx).mono fun e w' hh => ⟨hh.1, by rw [hh.2]; exact h⟩) ?_
              with_reducible refine q_v (Instr.indexAt 49 (.pointer (some ⟨w.heap.size + 1 + 1 + 1, 0, none⟩)) (.int .i64 (y : Nat))) (.pointer (some ⟨w.heap.size + 1 + 1 + 1, 5 * y, none⟩)) (by kernel_rfl) (by kernel_rfl) (fun wz _ => ix25 (w.heap.size + 1 + 1 + 1) y HY.out wz) ?_
              with_reducible refine q_v (Instr.indexAt 48 (.pointer (some ⟨w.heap.size + 1 + 1 + 1, 5 * y, none⟩)) (.int .i64 (y' : Nat))) (.pointer (some ⟨w.heap.size + 1 + 1 + 1, 5 * y + y', none⟩)) (by kernel_rfl) (by kernel_rfl) (fun wz _ => ix5 (w.heap.size + 1 + 1 + 1) (5 * y) y' HY'.out wz) ?_
              with_reducible refine wpQuiet_nil ?_
              intro w1 hCx
              simp only [Act.put, List.setIfInBounds_toArray, List.set_cons_succ, List.set_cons_zero]
              have hsa := hCx.setb y y' HY.out HY'.out (rul b z)
              have co := (cell_of_row w1 _ (5 * y + y') _ _ _ hCx.r3).trans (ar_at _ _ _ _ (by omega))
              have fo := frozen_of_row _ _ (5 * y + y') _ _ hCx.r3
              rw [HM.out] at hsa
              have H2 := Lib.hid hsa
              clear hCx H hsa
              have n1 := M1.out
              have n2 := M2.out
              have n3 := M3.out
              have n4 := M4.out
              go_wp2_with fail
              go_roundw
              case rel => exact ⟨t + 1, by omega, by go_num, by rw [HNX.out.1], by rw [HNX.out.2, ← HS5.out], H2⟩
              case measure => simp [intOf]; omega
            · obtain rfl : t = 24 := by omega
              have hrm := kmv_rng u (HU.out.2 0 (by decide))
              have H2 := Lib.hid (H.out.tob (mB_all u))
              obtain ⟨m, hm⟩ : ∃ m, kmv u = m := ⟨_, rfl⟩
              rw [hm] at H2
              have HM := Lib.hid hm
              have H3 := Lib.hid (show CQ3 w (cE m u 0) (kcl v) m wr from by rw [cE_0]; exact H2.out)
              clear H H2 hm hrm
              go_wp2_with fail
              go_loopw [12] (fun i wr => ∃ y : Nat, y ≤ 5 ∧ i = .int .i64 y ∧ Hid (CQ3 w (cE m u (5 * y)) (kcl v) m wr)) (fun i _ => 5 - (intOf i).toNat)
              case atStart => exact ⟨0, by omega, rfl, H3⟩
              case round =>
                obtain ⟨y, hy, rfl, H⟩ := hrel
                clear H3
                have hy0 : (0 : Int) ≤ y := by omega
                by_cases hly : y < 5
                · have hly' : (y : Int) < 5 := by omega
                  have HY := Lib.hid hly
                  go_wp2_with fail
                  go_loopw [13] (fun i wr => ∃ x : Nat, x ≤ 5 ∧ i = .int .i64 x ∧ Hid (CQ3 w (cE m u (x + 5 * y)) (kcl v) m wr)) (fun i _ => 5 - (intOf i).toNat)
                  case atStart => exact ⟨0, by omega, rfl, by rw [Nat.zero_add]; exact H⟩
                  case round =>
                    obtain ⟨x, hx, rfl, H1⟩ := hrel
                    clear H
                    have hx0 : (0 : Int) ≤ x := by omega
                    by_cases hlx : x < 5
                    · have hlx' : (x : Int) < 5 := by omega
                      have HX := Lib.hid hlx
                      have HN := Lib.hid (And.intro (cE_next m u (x + 5 * y)) (kch_of2 m x y hlx))
                      obtain ⟨x1, hx1⟩ : ∃ z, (x + 1) % 5 = z := ⟨_, rfl⟩
                      obtain ⟨x2, hx2⟩ : ∃ z, (x + 2) % 5 = z := ⟨_, rfl⟩
                      have HX1 := Lib.hid (show x1 < 5 by omega)
                      have HX2 := Lib.hid (show x2 < 5 by omega)
                      obtain ⟨z0, hz0⟩ : ∃ z, m (x + 5 * y) = z := ⟨_, rfl⟩
                      obtain ⟨z1, hz1⟩ : ∃ z, m (x1 + 5 * y) = z := ⟨_, rfl⟩
                      obtain ⟨z2, hz2⟩ : ∃ z, m (x2 + 5 * y) = z := ⟨_, rfl⟩
                      obtain ⟨z, hz⟩ : ∃ z, kch m (x + 5 * y) = z := ⟨_, rfl⟩
                      rw [hx1, hx2, hz0, hz1, hz2, hz] at HN
                      have HZ := Lib.hid (And.intro hz0 (And.intro hz1 hz2))
                      have e1 : ∀ w, (binOp BinOp.rem 3 (.int .i64 ((x : Int) + 1)) (.int .i64 5)).run Tryd.prog w = .ok (.int .i64 (x1 : Nat)) w := by
                        have hq : x = 0 ∨ x = 1 ∨ x = 2 ∨ x = 3 ∨ x = 4 := by omega
                        rw [← hx1]
                        rcases hq with rfl | rfl | rfl | rfl | rfl <;> exact fun w => by kernel_rfl
                      have e2 : ∀ w, (binOp BinOp.rem 3 (.int .i64 ((x : Int) + 2)) (.int .i64 5)).run Tryd.prog w = .ok (.int .i64 (x2 : Nat)) w := by
                        have hq : x = 0 ∨ x = 1 ∨ x = 2 ∨ x = 3 ∨ x = 4 := by omega
                        rw [← hx2]
                        rcases hq with rfl | rfl | rfl | rfl | rfl <;> exact fun w => by kernel_rfl
                      have a1 : ∀ w, (binOp BinOp.add 3 (.int .i64 x) (.int .i64 1)).run Tryd.prog w = .ok (.int .i64 ((x : Int) + 1)) w := by
                        have hq : x = 0 ∨ x = 1 ∨ x = 2 ∨ x = 3 ∨ x = 4 := by omega
                        rcases hq with rfl | rfl | rfl | rfl | rfl <;> exact fun w => by kernel_rfl
                      have a2 : ∀ w, (binOp BinOp.add 3 (.int .i64 x) (.int .i64 2)).run Tryd.prog w = .ok (.int .i64 ((x : Int) + 2)) w := by
                        have hq : x = 0 ∨ x = 1 ∨ x = 2 ∨ x = 3 ∨ x = 4 := by omega
                        rcases hq with rfl | rfl | rfl | rfl | rfl <;> exact fun w => by kernel_rfl
                      have E1 := Lib.hid e1
                      have E2 := Lib.hid e2
                      have A1 := Lib.hid a1
                      have A2 := Lib.hid a2
                      clear hx1 hx2 hz0 hz1 hz2 hz e1 e2 a1 a2
                      go_wp2_with fail
                      refine region_quiet_tail 26 (CQ3 w (cE m u (x + 5 * y)) (kcl v) m) (by kernel_rfl) (by kernel_rfl) H1.out.drew ?_
                      simp only [List.take_succ_cons, List.take_zero, List.drop_succ_cons, List.drop_zero]
                      with_reducible refine q_val (.int .i64 (x : Nat)) (by kernel_rfl) (fun _ _ => by kernel_rfl) ?_
                      with_reducible refine q_val (.int .i64 (y : Nat)) (by kernel_rfl) (fun _ _ => by kernel_rfl) ?_
                      with_reducible refine q_val (.int .i64 (x : Nat)) (by kernel_rfl) (fun _ _ => by kernel_rfl) ?_
                      with_reducible refine q_val (.int .i64 (y : Nat)) (by kernel_rfl) (fun _ _ => by kernel_rfl) ?_
                      with_reducible refine q_v (Instr.indexAt 49 (.pointer (some ⟨w.heap.size + 1 + 1 + 1, 0, none⟩)) (.int .i64 (x : Nat))) (.pointer (some ⟨w.heap.size + 1 + 1 + 1, 5 * x, none⟩)) (by kernel_rfl) (by kernel_rfl) (fun wz _ => ix25 (w.heap.size + 1 + 1 + 1) x HX.out wz) ?_
                      with_reducible refine q_v (Instr.indexAt 48 (.pointer (some ⟨w.heap.size + 1 + 1 + 1, 5 * x, none⟩)) (.int .i64 (y : Nat))) (.pointer (some ⟨w.heap.size + 1 + 1 + 1, 5 * x + y, none⟩)) (by kernel_rfl) (by kernel_rfl) (fun wz _ => ix5 (w.heap.size + 1 + 1 + 1) (5 * x) y HY.out wz) ?_
                      with_reducible refine q_load 34 (.tmp 115) (.pointer (some ⟨w.heap.size + 1 + 1 + 1, 5 * x + y, none⟩)) (.int .u64 z0) rfl (by kernel_rfl) (by kernel_rfl) (fun _ h => h.ldb x y HX.out HY.out _ HZ.out.1) ?_
                      with_reducible refine q_val (.int .i64 (x : Nat)) (by kernel_rfl) (fun _ _ => by kernel_rfl) ?_
                      with_reducible refine q_v (binOp BinOp.add 3 (.int .i64 x) (.int .i64 1)) (.int .i64 ((x : Int) + 1)) (by kernel_rfl) (by kernel_rfl) (fun wz _ => A1.out wz) ?_
                      with_reducible refine q_v (binOp BinOp.rem 3 (.int .i64 ((x : Int) + 1)) (.int .i64 5)) (.int .i64 (x1 : Nat)) (by kernel_rfl) (by kernel_rfl) (fun wz _ => E1.out wz) ?_
                      with_reducible refine q_val (.int .i64 (y : Nat)) (by kernel_rfl) (fun _ _ => by kernel_rfl) ?_
                      with_reducible refine q_v (Instr.indexAt 49 (.pointer (some ⟨w.heap.size + 1 + 1 + 1, 0, none⟩)) (.int .i64 (x1 : Nat))) (.pointer (some ⟨w.heap.size + 1 + 1 + 1, 5 * x1, none⟩)) (by kernel_rfl) (by kernel_rfl) (fun wz _ => ix25 (w.heap.size + 1 + 1 + 1) x1 HX1.out wz) ?_
                      with_reducible refine q_v (Instr.indexAt 48 (.pointer (some ⟨w.heap.size + 1 + 1 + 1, 5 * x1, none⟩)) (.int .i64 (y : Nat))) (.pointer (some ⟨w.heap.size + 1 + 1 + 1, 5 * x1 + y, none⟩)) (by kernel_rfl) (by kernel_rfl) (fun wz _ => ix5 (w.heap.size + 1 + 1 + 1) (5 * x1) y HY.out wz) ?_
                      with_reducible refine q_load 34 (.tmp 122) (.pointer (some ⟨w.heap.size + 1 + 1 + 1, 5 * x1 + y, none⟩)) (.int .u64 z1) rfl (by kernel_rfl) (by kernel_rfl) (fun _ h => h.ldb x1 y HX1.out HY.out _ HZ.out.2.1) ?_
                      with_reducible refine q_val (.int .u64 (bits .xor .u64 IntKind.u64.max z1)) (by kernel_rfl) (fun _ _ => by kernel_rfl) ?_
                      with_reducible refine q_val (.int .i64 (x : Nat)) (by kernel_rfl) (fun _ _ => by kernel_rfl) ?_
                      with_reducible refine q_v (binOp BinOp.add 3 (.int .i64 x) (.int .i64 2)) (.int .i64 ((x : Int) + 2)) (by kernel_rfl) (by kernel_rfl) (fun wz _ => A2.out wz) ?_
                      with_reducible refine q_v (binOp BinOp.rem 3 (.int .i64 ((x : Int) + 2)) (.int .i64 5)) (.int .i64 (x2 : Nat)) (by kernel_rfl) (by kernel_rfl) (fun wz _ => E2.out wz) ?_
                      with_reducible refine q_val (.int .i64 (y : Nat)) (by kernel_rfl) (fun _ _ => by kernel_rfl) ?_
                      with_reducible refine q_v (Instr.indexAt 49 (.pointer (some ⟨w.heap.size + 1 + 1 + 1, 0, none⟩)) (.int .i64 (x2 : Nat))) (.pointer (some ⟨w.heap.size + 1 + 1 + 1, 5 * x2, none⟩)) (by kernel_rfl) (by kernel_rfl) (fun wz _ => ix25 (w.heap.size + 1 + 1 + 1) x2 HX2.out wz) ?_
                      with_reducible refine q_v (Instr.indexAt 48 (.pointer (some ⟨w.heap.size + 1 + 1 + 1, 5 * x2, none⟩)) (.int .i64 (y : Nat))) (.pointer (some ⟨w.heap.size + 1 + 1 + 1, 5 * x2 + y, none⟩)) (by kernel_rfl) (by kernel_rfl) (fun wz _ => ix5 (w.heap.size + 1 + 1 + 1) (5 * x2) y HY.out wz) ?_
                      with_reducible refine q_load 34 (.tmp 130) (.pointer (some ⟨w.heap.size + 1 + 1 + 1, 5 * x2 + y, none⟩)) (.int .u64 z2) rfl (by kernel_rfl) (by kernel_rfl) (fun _ h => h.ldb x2 y HX2.out HY.out _ HZ.out.2.2) ?_
                      with_reducible refine q_val (.int .u64 (bits .and .u64 (bits .xor .u64 IntKind.u64.max z1) z2)) (by kernel_rfl) (fun _ _ => by kernel_rfl) ?_
                      with_reducible refine q_val (.int .u64 (bits .xor .u64 z0 (bits .and .u64 (bits .xor .u64 IntKind.u64.max z1) z2))) (by kernel_rfl) (fun _ _ => by kernel_rfl) ?_
                      with_reducible refine q_v (Instr.indexAt 49 (.pointer (some ⟨w.heap.size, 0, none⟩)) (.int .i64 (x : Nat))) (.pointer (some ⟨w.heap.size, 5 * x, none⟩)) (by kernel_rfl) (by kernel_rfl) (fun wz _ => ix25 (w.heap.size) x HX.out wz) ?_
                      with_reducible refine q_v (Instr.indexAt 48 (.pointer (some ⟨w.heap.size, 5 * x, none⟩)) (.int .i64 (y : Nat))) (.pointer (some ⟨w.heap.size, 5 * x + y, none⟩)) (by kernel_rfl) (by kernel_rfl) (fun wz _ => ix5 (w.heap.size) (5 * x) y HY.out wz) ?_
                      with_reducible refine wpQuiet_nil ?_
                      intro w1 hCx
                      simp only [Act.put, List.setIfInBounds_toArray, List.set_cons_succ, List.set_cons_zero]
                      rw [HN.out.2]
                      have hsa := hCx.seta x y HX.out HY.out z
                      have co := (cell_of_row w1 _ (5 * x + y) _ _ _ hCx.q.r0).trans (ar_at _ _ _ _ (by omega))
                      have fo := frozen_of_row _ _ (5 * x + y) _ _ hCx.q.r0
                      rw [HN.out.1] at hsa
                      have H2 := Lib.hid hsa
                      clear hCx H1 hsa
                      go_wp2_with fail
                      go_roundw
                      case rel => exact ⟨x + 1, by omega, by go_num, by rw [show x + 1 + 5 * y = x + 5 * y + 1 by omega]; exact H2⟩
                      case measure => simp [intOf]; omega
                    · obtain rfl : x = 5 := by omega
                      have H2 := Lib.hid (show CQ3 w (cE m u (5 * (y + 1))) (kcl v) m wr from by rw [show 5 * (y + 1) = 5 + 5 * y by omega]; exact H1.out)
                      clear H1
                      go_wp2_with fail
                      go_roundw
                      case rel => exact ⟨y + 1, by omega, by go_num, H2⟩
                      case measure => simp [intOf]; omega
                · obtain rfl : y = 5 := by omega
                  have H1 := Lib.hid (H.out.to (cE_25 m u))
                  have HR := Lib.hid (show kch (kmv (kth v)) = kch m from by rw [HU.out.1, HM.out])
                  clear H
                  obtain ⟨q, hq⟩ : ∃ q, tp (kch m) = q := ⟨_, rfl⟩
                  have HE := Lib.hid (show tp (kch (kmv (kth v))) = q from by rw [HR.out, hq])
                  have h0 := H1.out.q.r0
                  have h1 := H1.out.q.r1
                  rw [hq] at h0
                  have HB := Lib.hid (And.intro H1.out.q.old (And.intro h0 h1))
                  clear h0 h1 H1 hq HR
                  have HI : Hid ((Tryd.prog.info? 49).map (·.size) = some (ar .u64 25 q).size) := Lib.hid (by rw [ar_size]; exact info25)
                  go_wp2_with (first | (refine wpList_load_row rfl 49 _ rfl w.heap.size rfl 49 _ (0, 0) _ HB.out.2.1 Tryd.underlying49 rfl HI.out ?_) | (refine wpList_store_row rfl 49 _ _ rfl (w.heap.size + 1) (ar .u64 25 q) rfl rfl 49 _ HB.out.2.2 HI.out (by rw [ar_size, ar_size]) (ar_one _ _ _) ?_))
                  refine bodyPost_ret (v := .agg (ar .u64 25 q)) (results_cell_row (p := 2) rfl _ _ (w.heap.size + 1) 49 _ (0, 0) _ rfl (setRow_heap _ _ _ _ _ _ HB.out.2.2) Tryd.underlying49 rfl HI.out) rfl ⟨by rw [HE.out], below_setRow HB.out.1 (by omega) _⟩
end Go.Proofs.YtcmpnnfnkcmpcaaDoor

/- RIPEMD-160: what ripemd.Sum comes to. -/
import Derived.Test.YtnnbpofdnhnjlaaDoorRTake
import Derived.Test.YtnnbpofdnhnjlaaDoorREnd
import Derived.Test.YtnnbpofdnhnjlaaDoorRJoin
import Derived.Test.YtnnbpofdnhnjlaaDoorTie0
namespace Go.Proofs.YtnnbpofdnhnjlaaDoor
open Go.RowKit

/-- The five numbers ahead of all blocks. -/
def iniT (j : Nat) : Int := [1732584193, 4023233417, 2562383102, 271733878, 3285377520].getD j 0
/-- How many bytes there are with what ends them. -/
def plen (n : Nat) : Nat := 64 * ((n + 72) / 64)
/-- The hash of n bytes. -/
def rsum (f : Nat → Nat) (n : Nat) : Nat → Int := jn (hsh iniT (pad f n (plen n) n) (plen n / 64))
theorem rst_congr (h : Nat → Int) {x y : Nat → Int} (e : ∀ j, j < 16 → x j = y j) (l : Nat) (hl : l < 2) : ∀ n, rst h x l n = rst h y l n
  | 0 => rfl
  | n + 1 => by
    rw [rst, rst, rst_congr h e l hl n]
    unfold stp
    rw [e _ (plc_lt l hl _ _ (Nat.mod_lt _ (by omega)))]
theorem blk_congr (h : Nat → Int) {x y : Nat → Int} (e : ∀ j, j < 16 → x j = y j) : blk h x = blk h y := by
  unfold blk
  rw [rst_congr h e 0 (by omega), rst_congr h e 1 (by omega)]
theorem hsh_congr (h : Nat → Int) {f g : Nat → Nat} : ∀ k, (∀ i, i < 64 * k → f i = g i) → hsh h f k = hsh h g k
  | 0, _ => rfl
  | k + 1, e => by
    show blk (hsh h f k) _ = blk (hsh h g k) _
    rw [hsh_congr h k (fun i hi => e i (by omega))]
    exact blk_congr _ fun j hj => by
      rw [xw_congr (f := fun i => f (64 * k + i)) (g := fun i => g (64 * k + i)) j (fun i hi => e _ (by omega))]
theorem hsh_bd (h : Nat → Int) (f : Nat → Nat) (k : Nat) (hk : 0 < k) (j : Nat) : 0 ≤ hsh h f k j ∧ hsh h f k j < 4294967296 := by
  obtain ⟨m, rfl⟩ : ∃ m, k = m + 1 := ⟨k - 1, by omega⟩
  show 0 ≤ mrg _ _ _ j ∧ mrg _ _ _ j < 4294967296
  unfold mrg
  omega
/-- Whole blocks first, then what is left and what ends all. -/
theorem rsum_parts (f : Nat → Nat) {n l m L : Nat} (hl : n % 64 = l) (hm : n - l = m) (hL : L = 64 * ((l + 72) / 64)) :
    jn (hsh (hsh iniT f (m / 64)) (pad (fun j => f (m + j)) l L n) (L / 64)) = rsum f n := by
  unfold rsum plen
  have hq : 64 * ((n + 72) / 64) / 64 = m / 64 + L / 64 := by omega
  have hm2 : 64 * (m / 64) = m := by omega
  rw [hq, hsh_add, hm2]
  have e1 : hsh iniT (pad f n (64 * ((n + 72) / 64)) n) (m / 64) = hsh iniT f (m / 64) := hsh_congr _ _ fun i hi => pad_f (by omega)
  rw [e1]
  congr 1
  refine hsh_congr _ _ fun i hi => ?_
  have hi2 : i < L := by omega
  have hL2 : 64 * ((n + 72) / 64) = m + L := by omega
  rw [hL2]
  by_cases h1 : i < l
  · rw [pad_f h1, pad_f (show m + i < n by omega)]
  · by_cases h2 : i = l
    · subst h2
      rw [pad_n, show m + i = n by omega, pad_n]
    · by_cases h3 : i + 8 < L
      · rw [pad_0 (show l < i by omega) h3, pad_0 (show n < m + i by omega) (by omega)]
      · rw [pad_m (k := i + 8 - L) (show l < i by omega) (by omega), pad_m (k := i + 8 - L) (show n < m + i by omega) (by omega)]
set_option maxRecDepth 100000 in
theorem beginning_any (w : World) : Calls Tryd.prog 55 #[] w fun e w' => e = .returned (.agg (ar .u32 5 iniT)) ∧ Below w.heap.size w w' := by
  have hv : (#[.int .u32 1732584193, .int .u32 4023233417, .int .u32 2562383102, .int .u32 271733878, .int .u32 3285377520] : Array Value) = ar .u32 5 iniT := by kernel_rfl
  go_enter Tryd.func55, Tryd.ntmps55
  go_wp2_with (refine wpList_store_row rfl 47 _ _ rfl w.heap.size (ar .u32 5 iniT) rfl rfl 47 _ (heap_alloc_new _ _) (by rw [ar_size]; exact info5) (by rw [ar_size]; rfl) (ar_one _ _ _) ?_)
  exact bodyPost_ret (v := .agg (ar .u32 5 iniT)) (results_cell_row (p := 0) rfl _ _ w.heap.size 47 _ (0, 0) _ rfl (setRow_heap _ _ _ _ _ _ (heap_alloc_new _ _)) Tryd.underlying47 rfl (by rw [ar_size]; exact info5)) rfl ⟨rfl, below_setRow ((Below.refl w.heap.size w).alloc (Nat.le_refl _) _) (Nat.le_refl _) _⟩
theorem arg_to {a : Option Addr} {n cap m : Nat} (hm : m ≤ n) (hc : n ≤ cap) : ∃ a', (∀ w, (Instr.sliceAt 22 (.slice a n cap) none (some (.int .i64 (m : Int))) none).run Tryd.prog w = .ok (.slice a' m cap) w) ∧ ∀ w f, ArgB w (.slice a n cap) n f → ArgB w (.slice a' m cap) m f := by
  have hsz : ∀ w, (sizeOf (Tryd.prog.elem 22)).run Tryd.prog w = .ok 1 w := fun w => by kernel_rfl
  refine ⟨if cap = 0 then a else a.map (·.add 0), fun w => ?_, fun w f h => ?_⟩
  · rw [run_sliceAt_slice (P := Tryd.prog) (w := w) 22 _ _ _ _ (by kernel_rfl), run_slice_h (P := Tryd.prog) w 22 a n cap (by kernel_rfl) .i64 m (by omega) (by omega), hsz]
    simp only [Result.andThen, sliced, Int.toNat_natCast, Nat.sub_zero, Nat.zero_mul]
  · have e : (if cap = 0 then a else a.map (·.add 0)) = a := by
      split
      · rfl
      · cases a with
        | none => rfl
        | some q => simp [Addr.add]
    rw [e]
    obtain ⟨a2, c2, h1, h2, h3, h4⟩ := h
    cases h1
    refine ⟨a, cap, rfl, by omega, h3, ?_⟩
    rcases h4 with h4 | ⟨b, o, h5, h6, h7⟩
    · exact .inl (by omega)
    · exact .inr ⟨b, o, h5, h6, fun j hj => h7 j (by omega)⟩
theorem arg_from {a : Option Addr} {n cap m : Nat} (hm : m ≤ n) (hc : n ≤ cap) : ∃ a', (∀ w, (Instr.sliceAt 22 (.slice a n cap) (some (.int .i64 (m : Int))) none none).run Tryd.prog w = .ok (.slice a' (n - m) (cap - m)) w) ∧ ∀ w f, ArgB w (.slice a n cap) n f → ArgB w (.slice a' (n - m) (cap - m)) (n - m) (fun j => f (m + j)) := by
  have hsz : ∀ w, (sizeOf (Tryd.prog.elem 22)).run Tryd.prog w = .ok 1 w := fun w => by kernel_rfl
  refine ⟨if cap = m then a else a.map (·.add (m * 1)), fun w => ?_, fun w f h => ?_⟩
  · rw [run_sliceAt_slice (P := Tryd.prog) (w := w) 22 _ _ _ _ (by kernel_rfl), run_slice_l (P := Tryd.prog) w 22 a n cap (by kernel_rfl) .i64 m (by omega) (by omega), hsz]
    simp only [Result.andThen, sliced, Int.toNat_natCast]
  · obtain ⟨a2, c2, h1, h2, h3, h4⟩ := h
    cases h1
    by_cases hcm : cap = m
    · rw [if_pos hcm]
      exact ⟨a, cap - m, rfl, by omega, fun h => by omega, .inl (by omega)⟩
    · rw [if_neg hcm]
      refine ⟨_, cap - m, rfl, by omega, fun h => ?_, ?_⟩
      · cases a with
        | none => have := h3 rfl; omega
        | some q => cases h
      · rcases h4 with h4 | ⟨b, o, h5, h6, h7⟩
        · exact .inl (by omega)
        · subst h5
          refine .inr ⟨b, o + m, by simp [Addr.add], h6, fun j hj => ?_⟩
          rw [Nat.add_assoc]
          exact h7 _ (by omega)
/-- The worlds of Sum, up to the whole blocks. -/
structure CS (w wx : World) : Prop where
  old : Below w.heap.size w wx
  r0 : ∃ cs : Array Value, wx.heap[w.heap.size]? = some (.cells cs 43 (0, 0)) ∧ cs.size = 20
theorem CS.high {w wx : World} (c : CS w wx) : w.heap.size + 1 ≤ wx.heap.size := by
  obtain ⟨cs, h, -⟩ := c.r0
  exact (Array.getElem?_eq_some_iff.1 h).1
theorem CS.below {w wx w' : World} (c : CS w wx) (hb : Below wx.heap.size wx w') : CS w w' := by
  have l := c.high
  obtain ⟨cs, h, hs⟩ := c.r0
  exact ⟨c.old.trans (hb.mono c.old.size), cs, (hb.block _ (by omega)).trans h, hs⟩
theorem CS.rowed {w wx : World} {g : Nat} {cs : Array Value} (c : CS w wx) (hg : w.heap.size + 1 ≤ g) : CS w (wx.setRow g cs) := by
  obtain ⟨cs', h, hs⟩ := c.r0
  exact ⟨below_setRow c.old (by omega) _, cs', (setRow_other _ _ _ _ (by omega)).trans h, hs⟩
/-- All blocks but one stay, and that one when it holds what it shall. -/
structure RB (r : Nat) (fin : Obj) (wa wb : World) : Prop where
  size : wa.heap.size ≤ wb.heap.size
  keep : ∀ k, k ≠ r → k < wa.heap.size → wb.heap[k]? = wa.heap[k]?
  last : wa.heap[r]? = some fin → wb.heap[r]? = some fin
theorem RB.refl (r : Nat) (fin : Obj) (w : World) : RB r fin w w := ⟨Nat.le_refl _, fun _ _ _ => rfl, fun h => h⟩
theorem RB.of {r : Nat} {fin : Obj} {wa wb : World} (h : Below wa.heap.size wa wb) : RB r fin wa wb := ⟨h.size, fun k _ hk => h.block k hk, fun e => (h.block _ (Array.getElem?_eq_some_iff.1 e).1).trans e⟩
theorem RB.row {r : Nat} {cs cs' : Array Value} {T : TypeId} {fz : Nat × Nat} {wa : World} (h : wa.heap[r]? = some (.cells cs' T fz)) : RB r (.cells cs T fz) wa (wa.setRow r cs) :=
  ⟨Nat.le_of_eq (setRow_size wa r cs).symm, fun _ hk _ => setRow_other _ _ _ _ hk, fun _ => setRow_heap _ _ _ _ _ _ h⟩
theorem RB.own {r base n : Nat} {fin : Obj} {f : Nat → Nat} {v : Value} {wa wb : World} (h : RB r fin wa wb) (hr : r < base) (ho : Own8 base f n v wa) : Own8 base f n v wb := by
  refine ⟨ho.1, ?_⟩
  rcases ho.2 with h1 | ⟨g, cap, cur, h1, h2, h3, h4⟩
  · exact .inl h1
  · exact .inr ⟨g, cap, cur, h1, h2, (h.keep g (by omega) (Array.getElem?_eq_some_iff.1 h3).1).trans h3, h4⟩
theorem own8_base {b c n : Nat} {f : Nat → Nat} {v : Value} {w : World} (h : c ≤ b) (ho : Own8 b f n v w) : Own8 c f n v w := by
  refine ⟨ho.1, ?_⟩
  rcases ho.2 with h1 | ⟨g, cap, cur, h1, h2, h3⟩
  · exact .inl h1
  · exact .inr ⟨g, cap, cur, h1, by omega, h3⟩
theorem store_20 {g : Nat} {h : Nat → Int} {w : World} {cs : Array Value} (hs : cs.size = 20) (hg : w.heap[g]? = some (.cells cs 43 (0, 0))) : (Instr.storeAt 43 (.pointer (some ⟨g, 0, none⟩)) (.agg (ar .u8 20 h))).run Tryd.prog w = .ok () (w.setRow g (ar .u8 20 h)) := by
  simp only [Instr.storeAt, Instr.sureAddr, Sem.run_bind, Sem.run_pure, Result.andThen_ok, run_storeVar_row w g 43 43 cs (ar .u8 20 h) hg (by rw [ar_size]; exact info20) (by rw [ar_size]; exact hs) (ar_one _ _ _)]
/-- The worlds of Sum, behind the whole blocks. -/
structure CS3 (w : World) (D : Nat) (p : Nat → Int) (wx : World) : Prop where
  cs : CS w wx
  hD : w.heap.size + 1 ≤ D
  rD : wx.heap[D]? = some (.cells (ar .u32 5 p) 47 (0, 0))
theorem CS3.below {w wx w' : World} {D : Nat} {p : Nat → Int} (c : CS3 w D p wx) (hb : Below wx.heap.size wx w') : CS3 w D p w' :=
  ⟨c.cs.below hb, c.hD, (hb.block _ (Array.getElem?_eq_some_iff.1 c.rD).1).trans c.rD⟩
theorem CS3.put {w wx : World} {D : Nat} {p h : Nat → Int} (c : CS3 w D p wx) : CS3 w D p (wx.setRow w.heap.size (ar .u8 20 h)) := by
  have hd := c.hD
  obtain ⟨cs, h1, h2⟩ := c.cs.r0
  exact ⟨⟨below_setRow c.cs.old (by omega) _, _, setRow_heap _ _ _ _ _ _ h1, ar_size _ _ _⟩, c.hD, (setRow_other _ _ _ _ (by omega)).trans c.rD⟩
theorem tt_bin {P : Program} {ops : Array Oper} {Q : Exit → Act → World → Prop} {C : World → Prop} {φ : Nat → (Nat → Value) → World → Prop} {R : World → World → Prop} {k : Nat} {o : Oper} {a : Act} {w : World} (op : BinOp) (T : TypeId) (x y : Operand) (t : TypeId) (u v r : Value) (ho : o.op = .binOp op T x y t) (hw : Region.wanted o (yielded ops a.tmps) = true) (hx : a.eval x = u) (hy : a.eval y = v)
    (hg : (eqGuard op T x y u v).run P w = .ok () w) (hb : (binOp op T u v).run P w = .ok r w) (hC : C w) (hv : φ k (slots (a.put o.dst r)) w) (hR : R w w) : StepT P ops Q C φ R k o a w :=
  tt_val r hw (by
    unfold execOp
    rw [ho]
    simp only [hx, hy, Sem.run_bind, hg, hb, Result.andThen_ok, Sem.run_pure]) hC hv hR
/-- What is laid. -/
def FS (p : Nat → Int) (_ : TypeId) : Array Value := ar .u32 5 p
theorem arr_size_le {a : Act} {n : Nat} (h : a.tmps.size = n) : a.tmps.size = n := h
set_option maxRecDepth 100000 in
set_option maxHeartbeats 4000000 in
-- WHAT ripemd.Sum COMES TO.
theorem sum_any {n : Nat} {f : Nat → Nat} {v : Value} {w : World} (hn : n < 1125899906842624) (hf : ∀ j, f j < 256) (hT : Tabs w) (hP : ArgB w v n f) : Calls Tryd.prog 31 #[v] w fun e w' => e = .returned (.agg (ar .u8 20 (rsum f n))) ∧ Below w.heap.size w w' := by
  have HP := Lib.hid hP
  obtain ⟨ad, cap, rfl, hc, -, -⟩ := hP
  obtain ⟨l, hl⟩ : ∃ l, n % 64 = l := ⟨_, rfl⟩
  obtain ⟨m, hm⟩ : ∃ m, n - l = m := ⟨_, rfl⟩
  obtain ⟨a1, hs1⟩ := arg_to (a := ad) (n := n) (cap := cap) (m := m) (by omega) hc
  obtain ⟨a2, hs2⟩ := arg_from (a := ad) (n := n) (cap := cap) (m := m) (by omega) hc
  have hll : n - m = l := by omega
  rw [hll] at hs2
  have HS1 := Lib.hid hs1
  have HS2 := Lib.hid hs2
  have HLN := Lib.hid (show ∀ w, (Builtin.len_ #[22] 3 #[.slice ad n cap]).run Tryd.prog w = .ok (.int .i64 (n : Nat)) w from fun w => run_len_slice (P := Tryd.prog) (w := w) 22 3 ad n cap (by kernel_rfl))
  have HSB := Lib.hid (show ∀ w, (binOp BinOp.sub 3 (.int .i64 (n : Nat)) (.int .i64 ((n : Int) % 64))).run Tryd.prog w = .ok (.int .i64 (m : Nat)) w from fun w => by
    have e : (n : Int) - (n : Int) % 64 = (m : Int) := by omega
    have e2 : IntKind.i64.wrap (m : Int) = (m : Int) := by rw [IntKind.wrap_i64]; omega
    go_simp)
  have HTK := Lib.hid (show ∀ wx, CS w wx → Calls Tryd.prog 54 #[.agg (ar .u32 5 iniT), .slice a1 m cap] wx (fun e w' => e = .returned (.agg (ar .u32 5 (hsh iniT f (m / 64)))) ∧ Below wx.heap.size wx w') from fun wx c => take_any iniT (by omega) hf (hT.below c.old) (hs1.2 wx f (HP.out.below c.old)))
  have HRS := Lib.hid (rsum_parts f hl hm rfl)
  obtain ⟨p, hp⟩ : ∃ p, hsh iniT f (m / 64) = p := ⟨_, rfl⟩
  rw [hp] at HTK HRS
  obtain ⟨L, hL⟩ : ∃ L, 64 * ((l + 72) / 64) = L := ⟨_, rfl⟩
  rw [hL] at HRS
  obtain ⟨E, hE⟩ : ∃ E, pad (fun j => f (m + j)) l L n = E := ⟨_, rfl⟩
  have HEN := Lib.hid (show ∀ wx, CS w wx → Calls Tryd.prog 57 #[.slice a2 l (cap - m), .int .i64 (n : Nat)] wx (fun e w' => ∃ v', e = .returned v' ∧ Own8 wx.heap.size E L v' w' ∧ Below wx.heap.size wx w') from fun wx c => by rw [← hE]; exact ending_any (by omega) hn (by omega) (by omega) (by omega) (hs2.2 wx f (HP.out.below c.old)))
  have HT2 := Lib.hid (show ∀ wx v, CS w wx → Own8 (w.heap.size + 1) E L v wx → Calls Tryd.prog 54 #[.agg (ar .u32 5 p), v] wx (fun e w' => e = .returned (.agg (ar .u32 5 (hsh p E (L / 64)))) ∧ Below wx.heap.size wx w') from fun wx v c ho => take_any p (by omega) (fun j => by rw [← hE]; exact pad_lt (fun j _ => hf _) j) (hT.below c.old) (own_arg ho))
  have HJ := Lib.hid (show ∀ wx, Calls Tryd.prog 56 #[.agg (ar .u32 5 (hsh p E (L / 64)))] wx (fun e w' => e = .returned (.agg (ar .u8 20 (rsum f n))) ∧ Below wx.heap.size wx w') from fun wx => by
    rw [← HRS.out, hE]
    exact joined_any _ (fun j => hsh_bd _ _ _ (by omega) j) wx)
  obtain ⟨q, hq⟩ : ∃ q, hsh p E (L / 64) = q := ⟨_, rfl⟩
  rw [hq] at HT2 HJ
  obtain ⟨ro, hro⟩ : ∃ ro, rsum f n = ro := ⟨_, rfl⟩
  rw [hro] at HJ ⊢
  have hlm : (n : Int) % 64 = (l : Int) := by omega
  have hl0 : (0 : Int) ≤ l := by omega
  have hl1 : (l : Int) < 64 := by omega
  have hn0 : (0 : Int) ≤ n := by omega
  clear hp hL hE hq hro HRS hs1 hs2 hf hT hl hm hll hc HP
  go_enter Tryd.func31, Tryd.ntmps31
  go_wp2_with fail
  refine region_tie (CS w) (fun i s wx => match i with | 0 => s 8 = (.agg (ar .u32 5 iniT)) | 1 => s 9 = (.slice ad n cap) | 2 => s 10 = (.slice ad n cap) | 3 => s 11 = (.int .i64 (n : Nat)) | 4 => s 12 = (.int .i64 ((n : Int) % 64)) | 5 => s 13 = (.int .i64 (m : Nat)) | 6 => s 14 = (.slice a1 m cap) | 7 => s 15 = (.agg (ar .u32 5 p)) | 8 => ∃ D, s 4 = .pointer (some ⟨D, 0, none⟩) ∧ w.heap.size + 1 ≤ D ∧ ∃ cs : Array Value, wx.heap[D]? = some (.cells cs 47 (0, 0)) ∧ cs.size = 5 | 9 => ∃ D, s 4 = .pointer (some ⟨D, 0, none⟩) ∧ w.heap.size + 1 ≤ D ∧ wx.heap[D]? = some (.cells (FS p 47) 47 (0, 0)) | _ => True) (RT (w.heap.size + 1) (FS p)) (fun i => match i with | 0 => [8] | 1 => [9] | 2 => [10] | 3 => [11] | 4 => [12] | 5 => [13] | 6 => [14] | 7 => [15] | 8 => [4] | 9 => [4] | _ => []) (fun i => i) (by kernel_rfl) (by kernel_rfl) ⟨Below.drew (by go_grown), _, heap_alloc_new _ _, rfl⟩ ?_ ?_ ?_ ?_
  · intro i s s' wx he hp
    match i, he, hp with
    | 0, he, hp => exact (he 8 (by simp)).symm.trans hp
    | 1, he, hp => exact (he 9 (by simp)).symm.trans hp
    | 2, he, hp => exact (he 10 (by simp)).symm.trans hp
    | 3, he, hp => exact (he 11 (by simp)).symm.trans hp
    | 4, he, hp => exact (he 12 (by simp)).symm.trans hp
    | 5, he, hp => exact (he 13 (by simp)).symm.trans hp
    | 6, he, hp => exact (he 14 (by simp)).symm.trans hp
    | 7, he, hp => exact (he 15 (by simp)).symm.trans hp
    | 8, he, hp => obtain ⟨D, h1, h2⟩ := hp; exact ⟨D, (he 4 (by simp)).symm.trans h1, h2⟩
    | 9, he, hp => obtain ⟨D, h1, h2⟩ := hp; exact ⟨D, (he 4 (by simp)).symm.trans h1, h2⟩
    | _ + 10, _, _ => trivial
  · intro i s wa wb hR hp
    match i, hp with
    | 0, hp => exact hp
    | 1, hp => exact hp
    | 2, hp => exact hp
    | 3, hp => exact hp
    | 4, hp => exact hp
    | 5, hp => exact hp
    | 6, hp => exact hp
    | 7, hp => exact hp
    | 8, hp => obtain ⟨D, h1, h2, cs, h3, h4⟩ := hp; obtain ⟨cs', h5, h6⟩ := hR.shape _ _ _ _ h3; exact ⟨D, h1, h2, cs', h5, h6.trans h4⟩
    | 9, hp => obtain ⟨D, h1, h2, h3⟩ := hp; exact ⟨D, h1, h2, hR.keep _ _ _ h3⟩
    | _ + 10, _ => trivial
  · refine ⟨?_, ?_, ?_, ?_, ?_, ?_, ?_, ?_, ?_, ?_, trivial⟩
    · intro a wx hC hsz hK
      refine tt_call 55 #[] (by kernel_rfl) (by kernel_rfl) ?_
      exact (beginning_any wx).mono fun e w' hh => ⟨_, hh.1, hC.below hh.2, (slots_put _ _ _ (by rw [hsz]; exact of_decide_eq_true (by kernel_rfl))), RT.of hC.high hh.2⟩
    · intro a wx hC hsz hK
      have h0 : a.tmps.getD 0 undef = (.slice ad n cap) := hK.1 0 (by kernel_rfl)
      exact tt_val ((.slice ad n cap)) (by kernel_rfl) (by rw [← h0]; kernel_rfl) hC (slots_put _ _ _ (by rw [hsz]; exact of_decide_eq_true (by kernel_rfl))) (RT.refl _ _ _)
    · intro a wx hC hsz hK
      have h0 : a.tmps.getD 0 undef = (.slice ad n cap) := hK.1 0 (by kernel_rfl)
      exact tt_val ((.slice ad n cap)) (by kernel_rfl) (by rw [← h0]; kernel_rfl) hC (slots_put _ _ _ (by rw [hsz]; exact of_decide_eq_true (by kernel_rfl))) (RT.refl _ _ _)
    · intro a wx hC hsz hK
      have h0 : a.tmps.getD 10 undef = (.slice ad n cap) := hK.2 ⟨2, .data⟩ (by simp) rfl _ rfl
      refine tt_v (Builtin.len_ #[22] 3 #[(a.tmps.getD 10 undef)]) ((.int .i64 (n : Nat))) (by kernel_rfl) (by kernel_rfl) ?_ hC (slots_put _ _ _ (by rw [hsz]; exact of_decide_eq_true (by kernel_rfl))) (RT.refl _ _ _)
      rw [h0]
      exact HLN.out wx
    · intro a wx hC hsz hK
      have h0 : a.tmps.getD 3 undef = (.int .i64 ((n : Int) % 64)) := hK.1 3 (by kernel_rfl)
      exact tt_val ((.int .i64 ((n : Int) % 64))) (by kernel_rfl) (by rw [← h0]; kernel_rfl) hC (slots_put _ _ _ (by rw [hsz]; exact of_decide_eq_true (by kernel_rfl))) (RT.refl _ _ _)
    · intro a wx hC hsz hK
      have h0 : a.tmps.getD 11 undef = (.int .i64 (n : Nat)) := hK.2 ⟨3, .data⟩ (by simp) rfl _ rfl
      have h1 : a.tmps.getD 12 undef = (.int .i64 ((n : Int) % 64)) := hK.2 ⟨4, .data⟩ (by simp) rfl _ rfl
      exact tt_bin .sub 3 (.tmp 11) (.tmp 12) 3 (.int .i64 (n : Nat)) (.int .i64 ((n : Int) % 64)) (.int .i64 (m : Nat)) rfl (by kernel_rfl) h0 h1 (by kernel_rfl) (HSB.out wx) hC (slots_put _ _ _ (by rw [hsz]; exact of_decide_eq_true (by kernel_rfl))) (RT.refl _ _ _)
    · intro a wx hC hsz hK
      have h0 : a.tmps.getD 9 undef = (.slice ad n cap) := hK.2 ⟨1, .data⟩ (by simp) rfl _ rfl
      have h1 : a.tmps.getD 13 undef = (.int .i64 (m : Nat)) := hK.2 ⟨5, .data⟩ (by simp) rfl _ rfl
      refine tt_v (Instr.sliceAt 22 (a.tmps.getD 9 undef) none (some (a.tmps.getD 13 undef)) none) ((.slice a1 m cap)) (by kernel_rfl) (by kernel_rfl) ?_ hC (slots_put _ _ _ (by rw [hsz]; exact of_decide_eq_true (by kernel_rfl))) (RT.refl _ _ _)
      rw [h0, h1]
      exact HS1.out.1 wx
    · intro a wx hC hsz hK
      have h0 : a.tmps.getD 8 undef = (.agg (ar .u32 5 iniT)) := hK.2 ⟨0, .data⟩ (by simp) rfl _ rfl
      have h1 : a.tmps.getD 14 undef = (.slice a1 m cap) := hK.2 ⟨6, .data⟩ (by simp) rfl _ rfl
      refine tt_call 54 #[a.tmps.getD 8 undef, a.tmps.getD 14 undef] (by kernel_rfl) (by kernel_rfl) ?_
      rw [h0, h1]
      exact (HTK.out wx hC).mono fun e w' hh => ⟨_, hh.1, hC.below hh.2, (slots_put _ _ _ (by rw [hsz]; exact of_decide_eq_true (by kernel_rfl))), RT.of hC.high hh.2⟩
    · intro a wx hC hsz hK
      exact tt_new (.pointer (some ⟨wx.heap.size, 0, none⟩)) (by kernel_rfl) (by kernel_rfl) (hC.below ((Below.refl _ _).alloc (Nat.le_refl _) _)) ⟨_, (slots_put _ _ _ (by rw [hsz]; exact of_decide_eq_true (by kernel_rfl))), hC.high, #[.int .u32 0, .int .u32 0, .int .u32 0, .int .u32 0, .int .u32 0], heap_alloc_new _ _, rfl⟩ (RT.of hC.high ((Below.refl _ _).alloc (Nat.le_refl _) _))
    · intro a wx hC hsz hK
      obtain ⟨D, h1, h2, cs, h3, h4⟩ := hK.2 ⟨8, .data⟩ (by simp) rfl _ rfl
      have h0 : a.tmps.getD 15 undef = (.agg (ar .u32 5 p)) := hK.2 ⟨7, .data⟩ (by simp) rfl _ rfl
      exact tt_store (by kernel_rfl) rfl (run_store 47 (.tmp 4) (.tmp 15) _ _ rfl h1 h0 (store_5 h4 h3)) (hC.rowed h2) ⟨D, h1, h2, setRow_heap _ _ _ _ _ _ h3⟩ (RT.row h2 h3 (by rw [h4]; rfl))
  · intro f1 wx hC hf1
    obtain ⟨D, s4, hDl, hD⟩ := hf1 9 _ rfl
    have HC := Lib.hid (And.intro hC (And.intro hDl hD))
    clear hf1 hC hDl hD
    generalize hA : putAll _ _ _ = A at *
    have hsz : A.tmps.size = 28 := by rw [← hA, putAll_size]; rfl
    have t0 : A.tmps.getD 0 undef = (.slice ad n cap) := by subst hA; kernel_rfl
    have t1 : A.tmps.getD 1 undef = undef := by subst hA; kernel_rfl
    have t2 : A.tmps.getD 2 undef = (.pointer (some ⟨w.heap.size, 0, none⟩)) := by subst hA; kernel_rfl
    have t3 : A.tmps.getD 3 undef = (.int .i64 ((n : Int) % 64)) := by subst hA; kernel_rfl
    have t5 : A.tmps.getD 5 undef = (.slice ad n cap) := by subst hA; kernel_rfl
    have t6 : A.tmps.getD 6 undef = (.int .i64 (n : Nat)) := by subst hA; kernel_rfl
    have t7 : A.tmps.getD 7 undef = (.int .i64 ((n : Int) % 64)) := by subst hA; kernel_rfl
    obtain ⟨u8, t8⟩ : ∃ u, A.tmps.getD 8 undef = u := ⟨_, rfl⟩
    obtain ⟨u9, t9⟩ : ∃ u, A.tmps.getD 9 undef = u := ⟨_, rfl⟩
    obtain ⟨u10, t10⟩ : ∃ u, A.tmps.getD 10 undef = u := ⟨_, rfl⟩
    obtain ⟨u11, t11⟩ : ∃ u, A.tmps.getD 11 undef = u := ⟨_, rfl⟩
    obtain ⟨u12, t12⟩ : ∃ u, A.tmps.getD 12 undef = u := ⟨_, rfl⟩
    obtain ⟨u13, t13⟩ : ∃ u, A.tmps.getD 13 undef = u := ⟨_, rfl⟩
    obtain ⟨u14, t14⟩ : ∃ u, A.tmps.getD 14 undef = u := ⟨_, rfl⟩
    obtain ⟨u15, t15⟩ : ∃ u, A.tmps.getD 15 undef = u := ⟨_, rfl⟩
    have t16 : A.tmps.getD 16 undef = undef := by subst hA; kernel_rfl
    have t17 : A.tmps.getD 17 undef = undef := by subst hA; kernel_rfl
    have t18 : A.tmps.getD 18 undef = undef := by subst hA; kernel_rfl
    have t19 : A.tmps.getD 19 undef = undef := by subst hA; kernel_rfl
    have t20 : A.tmps.getD 20 undef = undef := by subst hA; kernel_rfl
    have t21 : A.tmps.getD 21 undef = undef := by subst hA; kernel_rfl
    have t22 : A.tmps.getD 22 undef = undef := by subst hA; kernel_rfl
    have t23 : A.tmps.getD 23 undef = undef := by subst hA; kernel_rfl
    have t24 : A.tmps.getD 24 undef = undef := by subst hA; kernel_rfl
    have t25 : A.tmps.getD 25 undef = undef := by subst hA; kernel_rfl
    have t26 : A.tmps.getD 26 undef = undef := by subst hA; kernel_rfl
    have t27 : A.tmps.getD 27 undef = undef := by subst hA; kernel_rfl
    have hd : A.defers = [] := by subst hA; kernel_rfl
    clear hA
    obtain ⟨tm, df⟩ := A
    simp only [slots] at *
    have hL := arr_lit tm
    rw [hsz] at hL
    simp only [List.range, List.range.loop, List.map] at hL
    rw [t0, t1, t2, t3, s4, t5, t6, t7, t8, t9, t10, t11, t12, t13, t14, t15, t16, t17, t18, t19, t20, t21, t22, t23, t24, t25, t26, t27] at hL
    subst hL hd
    clear t0 t1 t2 t3 s4 t5 t6 t7 t8 t9 t10 t11 t12 t13 t14 t15 t16 t17 t18 t19 t20 t21 t22 t23 t24 t25 t26 t27 hsz
    go_wp2_with fail
    refine region_tie (CS3 w D p) (fun i s wx => match i with | 0 => s 16 = (.agg (ar .u32 5 p)) | 1 => s 17 = (.slice ad n cap) | 2 => s 18 = (.slice ad n cap) | 3 => s 19 = (.int .i64 (n : Nat)) | 4 => s 20 = (.int .i64 ((n : Int) % 64)) | 5 => s 21 = (.int .i64 (m : Nat)) | 6 => s 22 = (.slice a2 l (cap - m)) | 7 => s 23 = (.slice ad n cap) | 8 => s 24 = (.int .i64 (n : Nat)) | 9 => ∃ v, s 25 = v ∧ Own8 (w.heap.size + 1) E L v wx | 10 => s 26 = (.agg (ar .u32 5 q)) | 11 => s 27 = (.agg (ar .u8 20 ro)) | 12 => wx.heap[w.heap.size]? = some (.cells (ar .u8 20 ro) 43 (0, 0)) | _ => True) (RB w.heap.size (.cells (ar .u8 20 ro) 43 (0, 0))) (fun i => match i with | 0 => [16] | 1 => [17] | 2 => [18] | 3 => [19] | 4 => [20] | 5 => [21] | 6 => [22] | 7 => [23] | 8 => [24] | 9 => [25] | 10 => [26] | 11 => [27] | 12 => [] | _ => []) (fun i => i) (by kernel_rfl) (by kernel_rfl) ⟨HC.out.1.below (Below.drew (Below.refl _ _)), HC.out.2.1, HC.out.2.2⟩ ?_ ?_ ?_ ?_
    · intro i s s' wx he hp
      match i, he, hp with
      | 0, he, hp => exact (he 16 (by simp)).symm.trans hp
      | 1, he, hp => exact (he 17 (by simp)).symm.trans hp
      | 2, he, hp => exact (he 18 (by simp)).symm.trans hp
      | 3, he, hp => exact (he 19 (by simp)).symm.trans hp
      | 4, he, hp => exact (he 20 (by simp)).symm.trans hp
      | 5, he, hp => exact (he 21 (by simp)).symm.trans hp
      | 6, he, hp => exact (he 22 (by simp)).symm.trans hp
      | 7, he, hp => exact (he 23 (by simp)).symm.trans hp
      | 8, he, hp => exact (he 24 (by simp)).symm.trans hp
      | 9, he, hp => obtain ⟨v, h1, h2⟩ := hp; exact ⟨v, (he 25 (by simp)).symm.trans h1, h2⟩
      | 10, he, hp => exact (he 26 (by simp)).symm.trans hp
      | 11, he, hp => exact (he 27 (by simp)).symm.trans hp
      | 12, he, hp => exact hp
      | _ + 13, _, _ => trivial
    · intro i s wa wb hR hp
      match i, hp with
      | 0, hp => exact hp
      | 1, hp => exact hp
      | 2, hp => exact hp
      | 3, hp => exact hp
      | 4, hp => exact hp
      | 5, hp => exact hp
      | 6, hp => exact hp
      | 7, hp => exact hp
      | 8, hp => exact hp
      | 9, hp => obtain ⟨v, h1, h2⟩ := hp; exact ⟨v, h1, hR.own (by omega) h2⟩
      | 10, hp => exact hp
      | 11, hp => exact hp
      | 12, hp => exact hR.last hp
      | _ + 13, _ => trivial
    · refine ⟨?_, ?_, ?_, ?_, ?_, ?_, ?_, ?_, ?_, ?_, ?_, ?_, ?_, trivial⟩
      · intro a wx hC hsz hK
        have h0 : a.tmps.getD 4 undef = (.pointer (some ⟨D, 0, none⟩)) := hK.1 4 (by kernel_rfl)
        exact tt_load 47 (.tmp 4) ((.pointer (some ⟨D, 0, none⟩))) ((.agg (ar .u32 5 p))) rfl (by kernel_rfl) h0 (load_5 hC.rD) hC (slots_put _ _ _ (by rw [hsz]; exact of_decide_eq_true (by kernel_rfl))) (RB.refl _ _ _)
      · intro a wx hC hsz hK
        have h0 : a.tmps.getD 0 undef = (.slice ad n cap) := hK.1 0 (by kernel_rfl)
        exact tt_val ((.slice ad n cap)) (by kernel_rfl) (by rw [← h0]; kernel_rfl) hC (slots_put _ _ _ (by rw [hsz]; exact of_decide_eq_true (by kernel_rfl))) (RB.refl _ _ _)
      · intro a wx hC hsz hK
        have h0 : a.tmps.getD 0 undef = (.slice ad n cap) := hK.1 0 (by kernel_rfl)
        exact tt_val ((.slice ad n cap)) (by kernel_rfl) (by rw [← h0]; kernel_rfl) hC (slots_put _ _ _ (by rw [hsz]; exact of_decide_eq_true (by kernel_rfl))) (RB.refl _ _ _)
      · intro a wx hC hsz hK
        have h0 : a.tmps.getD 18 undef = (.slice ad n cap) := hK.2 ⟨2, .data⟩ (by simp) rfl _ rfl
        refine tt_v (Builtin.len_ #[22] 3 #[(a.tmps.getD 18 undef)]) ((.int .i64 (n : Nat))) (by kernel_rfl) (by kernel_rfl) ?_ hC (slots_put _ _ _ (by rw [hsz]; exact of_decide_eq_true (by kernel_rfl))) (RB.refl _ _ _)
        rw [h0]
        exact HLN.out wx
      · intro a wx hC hsz hK
        have h0 : a.tmps.getD 3 undef = (.int .i64 ((n : Int) % 64)) := hK.1 3 (by kernel_rfl)
        exact tt_val ((.int .i64 ((n : Int) % 64))) (by kernel_rfl) (by rw [← h0]; kernel_rfl) hC (slots_put _ _ _ (by rw [hsz]; exact of_decide_eq_true (by kernel_rfl))) (RB.refl _ _ _)
      · intro a wx hC hsz hK
        have h0 : a.tmps.getD 19 undef = (.int .i64 (n : Nat)) := hK.2 ⟨3, .data⟩ (by simp) rfl _ rfl
        have h1 : a.tmps.getD 20 undef = (.int .i64 ((n : Int) % 64)) := hK.2 ⟨4, .data⟩ (by simp) rfl _ rfl
        exact tt_bin .sub 3 (.tmp 19) (.tmp 20) 3 (.int .i64 (n : Nat)) (.int .i64 ((n : Int) % 64)) (.int .i64 (m : Nat)) rfl (by kernel_rfl) h0 h1 (by kernel_rfl) (HSB.out wx) hC (slots_put _ _ _ (by rw [hsz]; exact of_decide_eq_true (by kernel_rfl))) (RB.refl _ _ _)
      · intro a wx hC hsz hK
        have h0 : a.tmps.getD 17 undef = (.slice ad n cap) := hK.2 ⟨1, .data⟩ (by simp) rfl _ rfl
        have h1 : a.tmps.getD 21 undef = (.int .i64 (m : Nat)) := hK.2 ⟨5, .data⟩ (by simp) rfl _ rfl
        refine tt_v (Instr.sliceAt 22 (a.tmps.getD 17 undef) (some (a.tmps.getD 21 undef)) none none) ((.slice a2 l (cap - m))) (by kernel_rfl) (by kernel_rfl) ?_ hC (slots_put _ _ _ (by rw [hsz]; exact of_decide_eq_true (by kernel_rfl))) (RB.refl _ _ _)
        rw [h0, h1]
        exact HS2.out.1 wx
      · intro a wx hC hsz hK
        have h0 : a.tmps.getD 0 undef = (.slice ad n cap) := hK.1 0 (by kernel_rfl)
        exact tt_val ((.slice ad n cap)) (by kernel_rfl) (by rw [← h0]; kernel_rfl) hC (slots_put _ _ _ (by rw [hsz]; exact of_decide_eq_true (by kernel_rfl))) (RB.refl _ _ _)
      · intro a wx hC hsz hK
        have h0 : a.tmps.getD 23 undef = (.slice ad n cap) := hK.2 ⟨7, .data⟩ (by simp) rfl _ rfl
        refine tt_v (Builtin.len_ #[22] 3 #[(a.tmps.getD 23 undef)]) ((.int .i64 (n : Nat))) (by kernel_rfl) (by kernel_rfl) ?_ hC (slots_put _ _ _ (by rw [hsz]; exact of_decide_eq_true (by kernel_rfl))) (RB.refl _ _ _)
        rw [h0]
        exact HLN.out wx
      · intro a wx hC hsz hK
        have h0 : a.tmps.getD 22 undef = (.slice a2 l (cap - m)) := hK.2 ⟨6, .data⟩ (by simp) rfl _ rfl
        have h1 : a.tmps.getD 24 undef = (.int .i64 (n : Nat)) := hK.2 ⟨8, .data⟩ (by simp) rfl _ rfl
        refine tt_call 57 #[a.tmps.getD 22 undef, a.tmps.getD 24 undef] (by kernel_rfl) (by kernel_rfl) ?_
        rw [h0, h1]
        refine (HEN.out wx hC.cs).mono ?_
        rintro e w' ⟨v', e1, ho, hb⟩
        exact ⟨v', e1, hC.below hb, ⟨v', (slots_put _ _ _ (by rw [hsz]; exact of_decide_eq_true (by kernel_rfl))), own8_base hC.cs.high ho⟩, RB.of hb⟩
      · intro a wx hC hsz hK
        have h0 : a.tmps.getD 16 undef = (.agg (ar .u32 5 p)) := hK.2 ⟨0, .data⟩ (by simp) rfl _ rfl
        obtain ⟨v, h1', ho⟩ := hK.2 ⟨9, .data⟩ (by simp) rfl _ rfl
        have h1 : a.tmps.getD 25 undef = v := h1'
        refine tt_call 54 #[a.tmps.getD 16 undef, a.tmps.getD 25 undef] (by kernel_rfl) (by kernel_rfl) ?_
        rw [h0, h1]
        exact (HT2.out wx v hC.cs ho).mono fun e w' hh => ⟨_, hh.1, hC.below hh.2, (slots_put _ _ _ (by rw [hsz]; exact of_decide_eq_true (by kernel_rfl))), RB.of hh.2⟩
      · intro a wx hC hsz hK
        have h0 : a.tmps.getD 26 undef = (.agg (ar .u32 5 q)) := hK.2 ⟨10, .data⟩ (by simp) rfl _ rfl
        refine tt_call 56 #[a.tmps.getD 26 undef] (by kernel_rfl) (by kernel_rfl) ?_
        rw [h0]
        exact (HJ.out wx).mono fun e w' hh => ⟨_, hh.1, hC.below hh.2, (slots_put _ _ _ (by rw [hsz]; exact of_decide_eq_true (by kernel_rfl))), RB.of hh.2⟩
      · intro a wx hC hsz hK
        have h0 : a.tmps.getD 27 undef = (.agg (ar .u8 20 ro)) := hK.2 ⟨11, .data⟩ (by simp) rfl _ rfl
        have h1 : a.tmps.getD 2 undef = (.pointer (some ⟨w.heap.size, 0, none⟩)) := hK.1 2 (by kernel_rfl)
        obtain ⟨cs, hr, hs⟩ := hC.cs.r0
        exact tt_store (by kernel_rfl) rfl (run_store 43 (.tmp 2) (.tmp 27) _ _ rfl h1 h0 (store_20 hs hr)) hC.put (setRow_heap _ _ _ _ _ _ hr) (RB.row hr)
    · intro f2 wy hC hf2
      have hfin := hf2 12 _ rfl
      have HC2 := Lib.hid (And.intro hC.cs.old hfin)
      clear hf2 hC hfin
      generalize hA : putAll _ _ _ = A at *
      have s2 : A.tmps.getD 2 undef = (.pointer (some ⟨w.heap.size, 0, none⟩)) := by subst hA; kernel_rfl
      have hd : A.defers = [] := by subst hA; kernel_rfl
      clear hA
      obtain ⟨tm, df⟩ := A
      simp only at s2 hd
      subst hd
      go_wp2_with fail
      exact bodyPost_ret (v := .agg (ar .u8 20 ro)) (results_cell_row (p := 2) rfl _ _ w.heap.size 43 _ (0, 0) _ s2 HC2.out.2 Tryd.underlying43 rfl (by rw [ar_size]; exact info20)) rfl ⟨rfl, HC2.out.1⟩
end Go.Proofs.YtnnbpofdnhnjlaaDoor

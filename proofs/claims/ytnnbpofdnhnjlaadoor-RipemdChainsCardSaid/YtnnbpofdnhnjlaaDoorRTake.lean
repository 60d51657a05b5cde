/- RIPEMD-160: block by block; what takeIn comes to. -/
import Derived.Test.YtnnbpofdnhnjlaaDoorRBy
import Derived.Test.YtnnbpofdnhnjlaaDoorTail
import Derived.Test.YtnnbpofdnhnjlaaDoorQ
import Derived.Laws.Cover3
namespace Go.Proofs.YtnnbpofdnhnjlaaDoor
open Go.RowKit

/-- h behind so many blocks. -/
def hsh (h : Nat → Int) (f : Nat → Nat) : Nat → Nat → Int
  | 0 => h
  | k + 1 => blk (hsh h f k) fun j => ((xw (fun i => f (64 * k + i)) j : Nat) : Int)
theorem xw_congr {f g : Nat → Nat} (j : Nat) (h : ∀ i, i < 4 → f (4 * j + i) = g (4 * j + i)) : xw f j = xw g j := by
  have h0 := h 0 (by omega)
  have h1 := h 1 (by omega)
  have h2 := h 2 (by omega)
  have h3 := h 3 (by omega)
  unfold xw bsum bsum bsum bsum bsum
  rw [h0, h1, h2, h3]
theorem hsh_add (h : Nat → Int) (f : Nat → Nat) (m : Nat) : ∀ k, hsh h f (m + k) = hsh (hsh h f m) (fun i => f (64 * m + i)) k
  | 0 => rfl
  | k + 1 => by
    show blk (hsh h f (m + k)) _ = blk (hsh (hsh h f m) (fun i => f (64 * m + i)) k) _
    rw [hsh_add h f m k]
    congr 1
    funext j
    show ((xw (fun i => f (64 * (m + k) + i)) j : Nat) : Int) = ((xw (fun i => f (64 * m + (64 * k + i))) j : Nat) : Int)
    rw [show (fun i => f (64 * (m + k) + i)) = (fun i => f (64 * m + (64 * k + i))) from funext fun i => by congr 1; omega]
theorem q_v {P : Program} {ops : Array Oper} {C : World → Prop} {Q : Act → Prop} {a : Act} {o : Oper} {rest : List Oper} (s : Sem Value) (v : Value) (hw : Region.wanted o (yielded ops a.tmps) = true) (ho : execOp a.eval o = (do let x ← s; pure (.value x))) (hr : ∀ w, C w → s.run P w = .ok v w) (h : wpQuiet P ops C Q rest (a.put o.dst v)) : wpQuiet P ops C Q (o :: rest) a :=
  q_val v hw (fun w hC => by rw [ho]; simp only [Sem.run_bind, hr w hC, Result.andThen_ok, Sem.run_pure]) h
theorem slice_by {b o n cap l : Nat} (h1 : l ≤ n) (h2 : l < cap) (w : World) : (Instr.sliceAt 22 (.slice (some ⟨b, o, none⟩) n cap) (some (.int .i64 (l : Int))) none none).run Tryd.prog w = .ok (.slice (some ⟨b, o + l, none⟩) (n - l) (cap - l)) w := by
  have hsz : (sizeOf (Tryd.prog.elem 22)).run Tryd.prog w = .ok 1 w := by kernel_rfl
  rw [run_sliceAt_slice (P := Tryd.prog) (w := w) 22 _ _ _ _ (by kernel_rfl), run_slice_l (P := Tryd.prog) w 22 (some ⟨b, o, none⟩) n cap (by kernel_rfl) .i64 l (by omega) (by omega), hsz]
  simp only [Result.andThen, sliced]
  rw [Int.toNat_natCast, if_neg (by omega)]
  simp [Addr.add]
theorem array_at {b o n cap : Nat} (h : 64 ≤ n) (w : World) : (Instr.arrayAt 48 (.slice (some ⟨b, o, none⟩) n cap)).run Tryd.prog w = .ok (.pointer (some ⟨b, o, none⟩)) w :=
  run_arrayAt _ 48 5 64 _ _ _ Tryd.underlying48 h
theorem info64 : (Tryd.prog.info? 48).map (·.size) = some 64 := by kernel_rfl
theorem load_64 {b o : Nat} {f : Nat → Nat} {w : World} (h : ∀ j, j < 64 → w.cell? ⟨b, o + j, none⟩ = some (.int .u8 (f j : Nat))) : (Instr.loadAt 48 (.pointer (some ⟨b, o, none⟩))).run Tryd.prog w = .ok (.agg (ar .u8 64 fun j => (f j : Nat))) w := by
  simp only [Instr.loadAt, Instr.sureAddr, Sem.run_bind, Sem.run_pure, Result.andThen_ok, run_loadVar_part w b o 64 48 .u8 (fun j => ((f j : Nat) : Int)) _ h Tryd.underlying48 rfl info64]
/-- The worlds while blocks are taken in. -/
structure CT (w : World) (h : Nat → Int) (wx : World) : Prop where
  old : Below w.heap.size w wx
  r0 : wx.heap[w.heap.size]? = some (.cells (ar .u32 5 h) 47 (0, 0))
  r1 : wx.heap[w.heap.size + 1]? = some (.cells #[.int .u32 0, .int .u32 0, .int .u32 0, .int .u32 0, .int .u32 0] 47 (0, 0))
theorem CT.high {w wx : World} {h : Nat → Int} (c : CT w h wx) : w.heap.size + 2 ≤ wx.heap.size := (Array.getElem?_eq_some_iff.1 c.r1).1
theorem CT.below {w wx w' : World} {h : Nat → Int} (c : CT w h wx) (hb : Below wx.heap.size wx w') : CT w h w' := by
  have l := c.high
  exact ⟨c.old.trans (hb.mono c.old.size), (hb.block _ (by omega)).trans c.r0, (hb.block _ (by omega)).trans c.r1⟩
theorem CT.set {w wx : World} {h h' : Nat → Int} (c : CT w h wx) : CT w h' (wx.setRow w.heap.size (ar .u32 5 h')) :=
  ⟨below_setRow c.old (by omega) _, setRow_heap _ _ _ _ _ _ c.r0, (setRow_other _ _ _ _ (by omega)).trans c.r1⟩
set_option maxRecDepth 100000 in
set_option maxHeartbeats 4000000 in
-- WHAT takeIn COMES TO.
theorem take_any (h : Nat → Int) {n : Nat} {f : Nat → Nat} {v : Value} {w : World} (hn : n < 1125899906842624) (hf : ∀ j, f j < 256) (hT : Tabs w) (hP : ArgB w v n f) : Calls Tryd.prog 54 #[.agg (ar .u32 5 h), v] w fun e w' => e = .returned (.agg (ar .u32 5 (hsh h f (n / 64)))) ∧ Below w.heap.size w w' := by
  obtain ⟨a, cap, rfl, hc, hn0, hr⟩ := hP
  have HF := Lib.hid hf; clear hf
  have HT := Lib.hid hT; clear hT
  have HR := Lib.hid (And.intro hr hc); clear hr hn0 hc
  have hn' : (n : Int) < 1125899906842624 := by omega
  have hn2 : (0 : Int) ≤ n := by omega
  clear hn
  go_enter Tryd.func54, Tryd.ntmps54
  obtain ⟨m, hm⟩ : ∃ m : Nat, (n : Int) / 64 = (m : Int) := ⟨n / 64, by omega⟩
  have hm2 : n / 64 = m := by omega
  rw [hm2]
  go_wp2_with fail
  go_loopw [9] (fun i wr => ∃ k : Nat, k ≤ m ∧ i = .int .i64 k ∧ Hid (CT w (hsh h f k) wr)) (fun i _ => m - (intOf i).toNat)
  case atStart =>
    exact ⟨0, by omega, rfl, Lib.hid ⟨by go_grown, heap_alloc2_old _ _ _, heap_alloc2_new _ _ _⟩⟩
  case round =>
    obtain ⟨k, hk, rfl, H⟩ := hrel
    have hk0 : (0 : Int) ≤ k := by omega
    by_cases hlt : k < m
    · have hlt' : (k : Int) < m := by omega
      have hk1 : (k : Int) < 1125899906842624 := by omega
      obtain ⟨y, hy⟩ : ∃ y, 64 * k = y := ⟨_, rfl⟩
      have hyn : y + 64 ≤ n := by omega
      obtain ⟨b, o, rfl, hbl, hcell⟩ : ∃ b o, a = some ⟨b, o, none⟩ ∧ b < w.heap.size ∧ ∀ j, j < n → w.cell? ⟨b, o + j, none⟩ = some (.int .u8 (f j : Nat)) := by
        rcases HR.out.1 with h0 | h0
        · omega
        · exact h0
      have hcy : y < cap := by have := HR.out.2; omega
      have HM := Lib.hid (show ∀ w, (binOp BinOp.mul 3 (.int .i64 k) (.int .i64 64)).run Tryd.prog w = .ok (.int .i64 (y : Nat)) w from fun w => by
        have e : (k : Int) * 64 = (y : Int) := by omega
        have e2 : IntKind.i64.wrap (y : Int) = (y : Int) := by rw [IntKind.wrap_i64]; omega
        have e3 : (64 : Int) * k = (y : Int) := by omega
        go_simp)
      have HL := Lib.hid (fun wx (c : CT w (hsh h f k) wx) => load_5 c.r0)
      have HS := Lib.hid (slice_by (b := b) (o := o) (n := n) (cap := cap) (l := y) (by omega) hcy)
      have HA := Lib.hid (array_at (b := b) (o := o + y) (n := n - y) (cap := cap - y) (by omega))
      have HX := Lib.hid (fun wx (c : CT w (hsh h f k) wx) => load_64 (b := b) (o := o + y) (f := fun i => f (64 * k + i)) (w := wx) (fun j hj => by
        rw [Nat.add_assoc, ← hy]
        exact (c.old.cell (p := ⟨b, o + (64 * k + j), none⟩) hbl).trans (hcell _ (by omega))))
      have HB := Lib.hid (show ∀ wx, CT w (hsh h f k) wx → Calls Tryd.prog 34 #[.agg (ar .u32 5 (hsh h f k)), .agg (ar .u8 64 fun i => (f (64 * k + i) : Nat))] wx (fun e w' => e = .returned (.agg (ar .u32 5 (hsh h f (k + 1)))) ∧ CT w (hsh h f k) w') from fun wx c => (block_any (hsh h f k) (fun i => f (64 * k + i)) (fun i => HF.out _) wx (HT.out.below c.old)).mono (fun e w' h => ⟨h.1, c.below h.2⟩))
      obtain ⟨p, hp⟩ : ∃ p, hsh h f k = p := ⟨_, rfl⟩
      obtain ⟨p', hp'⟩ : ∃ p, hsh h f (k + 1) = p := ⟨_, rfl⟩
      obtain ⟨x, hx⟩ : ∃ x : Nat → Int, (fun i => ((f (64 * k + i) : Nat) : Int)) = x := ⟨_, rfl⟩
      rw [hp] at H HL HX HB
      rw [hp', hx] at HB
      have HX2 : Hid (∀ wx, CT w p wx → (Instr.loadAt 48 (.pointer (some ⟨b, o + y, none⟩))).run Tryd.prog wx = .ok (.agg (ar .u8 64 x)) wx) := Lib.hid (by rw [← hx]; exact HX.out)
      have HP' := Lib.hid hp'
      clear hp hp' hx hcell HX
      go_wp2_with fail
      refine region_quiet_tail 8 (CT w p) (by kernel_rfl) (by kernel_rfl) (H.out.below (Below.drew (Below.refl _ _))) ?_
      simp only [List.take_succ_cons, List.take_zero, List.drop_succ_cons, List.drop_zero]
      with_reducible refine q_load 47 (.tmp 2) (.pointer (some ⟨w.heap.size, 0, none⟩)) (.agg (ar .u32 5 p)) rfl (by kernel_rfl) (by kernel_rfl) HL.out ?_
      with_reducible refine q_val (.slice (some ⟨b, o, none⟩) n cap) (by kernel_rfl) (fun _ _ => by kernel_rfl) ?_
      with_reducible refine q_val (.int .i64 k) (by kernel_rfl) (fun _ _ => by kernel_rfl) ?_
      with_reducible refine q_bin .mul 3 _ _ 3 (.int .i64 k) (.int .i64 64) (.int .i64 (y : Nat)) rfl (by kernel_rfl) (by kernel_rfl) (by kernel_rfl) (fun _ => by kernel_rfl) HM.out ?_
      with_reducible refine q_v (Instr.sliceAt 22 (.slice (some ⟨b, o, none⟩) n cap) (some (.int .i64 (y : Int))) none none) (.slice (some ⟨b, o + y, none⟩) (n - y) (cap - y)) (by kernel_rfl) (by kernel_rfl) (fun w _ => HS.out w) ?_
      with_reducible refine q_v (Instr.arrayAt 48 (.slice (some ⟨b, o + y, none⟩) (n - y) (cap - y))) (.pointer (some ⟨b, o + y, none⟩)) (by kernel_rfl) (by kernel_rfl) (fun w _ => HA.out w) ?_
      with_reducible refine q_load 48 (.tmp 17) (.pointer (some ⟨b, o + y, none⟩)) (.agg (ar .u8 64 x)) rfl (by kernel_rfl) (by kernel_rfl) HX2.out ?_
      with_reducible refine q_call 34 #[.agg (ar .u32 5 p), .agg (ar .u8 64 x)] (.agg (ar .u32 5 p')) (by kernel_rfl) (fun _ => by kernel_rfl) HB.out ?_
      with_reducible refine wpQuiet_nil ?_
      intro wx hC
      have HC := Lib.hid hC
      clear hC
      simp only [Act.put, List.setIfInBounds_toArray, List.set_cons_succ, List.set_cons_zero]
      go_wp2_with (refine wpList_store_row rfl 47 _ _ rfl w.heap.size (ar .u32 5 p') rfl rfl 47 _ HC.out.r0 (by rw [ar_size]; exact info5) (by rw [ar_size, ar_size]) (ar_one _ _ _) ?_)
      go_roundw
      case rel =>
        refine ⟨k + 1, by omega, by go_num, Lib.hid ?_⟩
        rw [HP'.out]
        exact HC.out.set
      case measure => simp [intOf]; omega
    · obtain rfl : k = m := by omega
      have hlt' : ¬ (k : Int) < k := by omega
      go_wp2_with (first | (refine wpList_load_row rfl 47 _ rfl w.heap.size rfl 47 _ (0, 0) _ H.out.r0 Tryd.underlying47 rfl (by rw [ar_size]; exact info5) ?_) | (refine wpList_store_row rfl 47 _ _ rfl (w.heap.size + 1) (ar .u32 5 (hsh h f k)) rfl rfl 47 _ H.out.r1 (by rw [ar_size]; exact info5) (by rw [ar_size]; rfl) (ar_one _ _ _) ?_))
      refine bodyPost_ret (v := .agg (ar .u32 5 (hsh h f k))) (results_cell_row (p := 4) rfl _ _ (w.heap.size + 1) 47 _ (0, 0) _ rfl (setRow_heap _ _ _ _ _ _ H.out.r1) Tryd.underlying47 rfl (by rw [ar_size]; exact info5)) rfl ⟨rfl, below_setRow H.out.old (by omega) _⟩
end Go.Proofs.YtnnbpofdnhnjlaaDoor

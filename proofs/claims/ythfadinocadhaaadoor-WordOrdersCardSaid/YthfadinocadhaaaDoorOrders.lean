/- bailiwicklaw01.WordOrders answers true, called with any three words in any world: words are compared as the document says, and that is an order either way. -/
import Derived.Test.YthfadinocadhaaaDoorScmpr
import Derived.Deep.DeepCutAuto
namespace Go.Proofs.YthfadinocadhaaaDoor
open Go.RowKit

/-- The worlds of a law over three words. -/
def CW3 (w : World) (x y z : Nat) (wx : World) : Prop :=
  Below w.heap.size w wx ∧ wx.heap[w.heap.size]? = some (.cells (pw x) 24 (0, 0)) ∧ wx.heap[w.heap.size + 1]? = some (.cells (pw y) 24 (0, 0)) ∧ wx.heap[w.heap.size + 1 + 1]? = some (.cells (pw z) 24 (0, 0))
theorem CW3.below {w wx w' : World} {x y z : Nat} (h : CW3 w x y z wx) (hb : Below wx.heap.size wx w') : CW3 w x y z w' := by
  have hl := (Array.getElem?_eq_some_iff.1 h.2.2.2).1
  exact ⟨h.1.trans (hb.mono h.1.size), (hb.block _ (by omega)).trans h.2.1, (hb.block _ (by omega)).trans h.2.2.1, (hb.block _ hl).trans h.2.2.2⟩
theorem CW3.call {w : World} {x y z : Nat} {f : FuncId} {args : Array Value} {v : Value} (h : ∀ w, Calls Tryd.prog f args w fun e w' => e = .returned v ∧ Below w.heap.size w w') : ∀ wx, CW3 w x y z wx → Calls Tryd.prog f args wx fun e w' => e = .returned v ∧ CW3 w x y z w' :=
  fun wx hC => (h wx).mono fun _ _ h => ⟨h.1, hC.below h.2⟩
theorem q_un {P : Program} {ops : Array Oper} {C : World → Prop} {Q : Act → Prop} {a : Act} {o : Oper} {rest : List Oper} (op : UnOp) (T : TypeId) (x : Operand) (u r : Value) (ho : o.op = .unOp op T x) (hw : Region.wanted o (yielded ops a.tmps) = true) (hx : a.eval x = u)
    (hb : ∀ w, (Op.unary op u).run P w = .ok r w) (h : wpQuiet P ops C Q rest (a.put o.dst r)) : wpQuiet P ops C Q (o :: rest) a :=
  q_val r hw (fun w hC => by
    unfold execOp
    rw [ho]
    simp only [hx, Sem.run_bind, hb w, Result.andThen_ok, Sem.run_pure]) h

theorem ord_in (x y : Nat) : ord x y = -1 ∨ ord x y = 0 ∨ ord x y = 1 := by
  unfold ord
  by_cases h1 : x < y
  · rw [if_pos h1]; exact .inl rfl
  · rw [if_neg h1]
    by_cases h2 : y < x
    · rw [if_pos h2]; exact .inr (.inr rfl)
    · rw [if_neg h2]; exact .inr (.inl rfl)
theorem ord_swap (x y : Nat) : ord y x = - ord x y := by
  have e1 : ord x y = if x < y then -1 else if y < x then 1 else 0 := rfl
  have e2 : ord y x = if y < x then -1 else if x < y then 1 else 0 := rfl
  by_cases h1 : x < y
  · rw [e1, e2, if_pos h1, if_neg (show ¬ y < x by omega), if_pos h1]; rfl
  · by_cases h2 : y < x
    · rw [e1, e2, if_pos h2, if_neg h1, if_pos h2]
    · rw [e1, e2, if_neg h2, if_neg h1, if_neg h1, if_neg h2]; rfl
theorem ord_zero (x y : Nat) : (ord x y = 0) ↔ x = y := by
  unfold ord
  by_cases h1 : x < y
  · rw [if_pos h1]; constructor
    · intro h; cases h
    · intro h; omega
  · rw [if_neg h1]
    by_cases h2 : y < x
    · rw [if_pos h2]; constructor
      · intro h; cases h
      · intro h; omega
    · rw [if_neg h2]; constructor
      · intro; omega
      · intro; rfl
theorem ord_trans (x y z : Nat) (h : ord y z = ord x y) : ord x z = ord x y := by
  unfold ord at *
  by_cases h1 : x < y
  · rw [if_pos h1] at h ⊢
    by_cases h2 : y < z
    · rw [if_pos (by omega)]
    · rw [if_neg h2] at h; split at h <;> cases h
  · rw [if_neg h1] at h ⊢
    by_cases h2 : y < x
    · rw [if_pos h2] at h ⊢
      by_cases h3 : y < z
      · rw [if_pos h3] at h; cases h
      · rw [if_neg h3] at h
        by_cases h4 : z < y
        · rw [if_neg (by omega), if_pos (by omega)]
        · rw [if_neg h4] at h; cases h
    · rw [if_neg h2] at h ⊢
      by_cases h3 : y < z
      · rw [if_pos h3] at h; cases h
      · rw [if_neg h3] at h
        by_cases h4 : z < y
        · rw [if_pos h4] at h; cases h
        · rw [if_neg (by omega), if_neg (by omega)]

theorem in_same (n : Int) (w : World) : (binOp BinOp.neq 3 (.int .i64 n) (.int .i64 n)).run Tryd.prog w = .ok (.bool false) w := by
  have h : (n != n) = false := by simp
  go_simp
theorem ie_of (n m : Int) (b : Bool) (h : decide (n = m) = b) (w : World) : (binOp BinOp.eql 3 (.int .i64 n) (.int .i64 m)).run Tryd.prog w = .ok (.bool b) w := by
  have h2 : (n == m) = b := h
  go_simp
theorem ig (op : BinOp) (n m : Int) (o1 o2 : Operand) (w : World) : (eqGuard op 3 o1 o2 (.int .i64 n) (.int .i64 m)).run Tryd.prog w = .ok () w := by
  cases op <;> kernel_rfl
theorem bn_same (b : Bool) (w : World) : (binOp BinOp.neq 4 (.bool b) (.bool b)).run Tryd.prog w = .ok (.bool false) w := by
  cases b <;> kernel_rfl
theorem bg (b c : Bool) (o1 o2 : Operand) (w : World) : (eqGuard BinOp.neq 4 o1 o2 (.bool b) (.bool c)).run Tryd.prog w = .ok () w := by
  kernel_rfl
theorem un_neg (n m : Int) (h : n = -1 ∨ n = 0 ∨ n = 1) (hm : m = -n) (w : World) : (Op.unary UnOp.neg (.int .i64 n)).run Tryd.prog w = .ok (.int .i64 m) w := by
  subst hm
  rcases h with rfl | rfl | rfl <;> kernel_rfl

set_option maxRecDepth 100000 in
set_option maxHeartbeats 2000000 in
theorem orders_true_true (x y z : Nat) (n s n' s' nb sb : Int) (e : Bool) (w : World)
    (hcab : ∀ w, Calls Tryd.prog 22 #[wv x, wv y] w fun e w' => e = .returned (.int .i64 n) ∧ Below w.heap.size w w')
    (hsab : ∀ w, Calls Tryd.prog 47 #[wv x, wv y] w fun e w' => e = .returned (.int .i64 s) ∧ Below w.heap.size w w')
    (hrab : ∀ w, Calls Tryd.prog 48 #[wv x, wv y] w fun e w' => e = .returned (.int .i64 n) ∧ Below w.heap.size w w')
    (htab : ∀ w, Calls Tryd.prog 49 #[wv x, wv y] w fun e w' => e = .returned (.int .i64 s) ∧ Below w.heap.size w w')
    (hcba : ∀ w, Calls Tryd.prog 22 #[wv y, wv x] w fun e w' => e = .returned (.int .i64 n') ∧ Below w.heap.size w w')
    (hsba : ∀ w, Calls Tryd.prog 47 #[wv y, wv x] w fun e w' => e = .returned (.int .i64 s') ∧ Below w.heap.size w w')
    (hcbc : ∀ w, Calls Tryd.prog 22 #[wv y, wv z] w fun e w' => e = .returned (.int .i64 nb) ∧ Below w.heap.size w w')
    (hsbc : ∀ w, Calls Tryd.prog 47 #[wv y, wv z] w fun e w' => e = .returned (.int .i64 sb) ∧ Below w.heap.size w w')
    (hcac : ∀ w, Calls Tryd.prog 22 #[wv x, wv z] w fun e w' => e = .returned (.int .i64 n) ∧ Below w.heap.size w w')
    (hsac : ∀ w, Calls Tryd.prog 47 #[wv x, wv z] w fun e w' => e = .returned (.int .i64 s) ∧ Below w.heap.size w w')
    (hIn : n = -1 ∨ n = 0 ∨ n = 1) (hIs : s = -1 ∨ s = 0 ∨ s = 1) (hMn : n' = -n) (hMs : s' = -s) (hZn : decide (n = 0) = e) (hZs : decide (s = 0) = e)
    (hE : ∀ w, (binOp BinOp.eql 24 (wv x) (wv y)).run Tryd.prog w = .ok (.bool e) w) (hBn : decide (nb = n) = true) (hBs : decide (sb = s) = true)
    (hlv : ∀ w, Calls Tryd.prog 19 #[] w fun e w' => e = .returned (.bool true) ∧ Below w.heap.size w w') :
    Calls Tryd.prog 8 #[wv x, wv y, wv z] w fun e w' => e = .returned (.bool true) ∧ Below w.heap.size w w' := by
  rw [wv_pw x, wv_pw y, wv_pw z]
  have L1 := Lib.hid (fun wx (hC : (CW3 w x y z) wx) => load_pw hC.2.1)
  have L2 := Lib.hid (fun wx (hC : (CW3 w x y z) wx) => load_pw hC.2.2.1)
  have L3 := Lib.hid (fun wx (hC : (CW3 w x y z) wx) => load_pw hC.2.2.2)
  have Kcab := Lib.hid (CW3.call (w := w) (x := x) (y := y) (z := z) hcab); clear hcab
  have Ksab := Lib.hid (CW3.call (w := w) (x := x) (y := y) (z := z) hsab); clear hsab
  have Krab := Lib.hid (CW3.call (w := w) (x := x) (y := y) (z := z) hrab); clear hrab
  have Ktab := Lib.hid (CW3.call (w := w) (x := x) (y := y) (z := z) htab); clear htab
  have Kcba := Lib.hid (CW3.call (w := w) (x := x) (y := y) (z := z) hcba); clear hcba
  have Ksba := Lib.hid (CW3.call (w := w) (x := x) (y := y) (z := z) hsba); clear hsba
  have Kcbc := Lib.hid (CW3.call (w := w) (x := x) (y := y) (z := z) hcbc); clear hcbc
  have Ksbc := Lib.hid (CW3.call (w := w) (x := x) (y := y) (z := z) hsbc); clear hsbc
  have Kcac := Lib.hid (CW3.call (w := w) (x := x) (y := y) (z := z) hcac); clear hcac
  have Ksac := Lib.hid (CW3.call (w := w) (x := x) (y := y) (z := z) hsac); clear hsac
  have HIn := Lib.hid hIn; clear hIn
  have HIs := Lib.hid hIs; clear hIs
  have HMn := Lib.hid hMn; clear hMn
  have HMs := Lib.hid hMs; clear hMs
  have HZn := Lib.hid hZn; clear hZn
  have HZs := Lib.hid hZs; clear hZs
  have HE := Lib.hid hE; clear hE
  have HBn := Lib.hid hBn; clear hBn
  have HBs := Lib.hid hBs; clear hBs
  have Hlv := Lib.hid hlv; clear hlv
  go_enter Tryd.func8, Tryd.ntmps8
  go_upto_region 1 with (fail)
  refine wp_region_quiet (C := (CW3 w x y z)) (by kernel_rfl) (by kernel_rfl) ⟨Below.drew (by go_grown), (heap3 _ _ _ _).1, (heap3 _ _ _ _).2.1, (heap3 _ _ _ _).2.2⟩ ?_
  with_reducible refine q_load 24 (.tmp 3) (.pointer (some ⟨w.heap.size, 0, none⟩)) (wv x) rfl (by kernel_rfl) (by kernel_rfl) L1.out ?_
  with_reducible refine q_load 24 (.tmp 4) (.pointer (some ⟨w.heap.size + 1, 0, none⟩)) (wv y) rfl (by kernel_rfl) (by kernel_rfl) L2.out ?_
  with_reducible refine q_call 22 #[wv x, wv y] (.int .i64 n) (by kernel_rfl) (fun _ => by kernel_rfl) Kcab.out ?_
  with_reducible refine q_load 24 (.tmp 3) (.pointer (some ⟨w.heap.size, 0, none⟩)) (wv x) rfl (by kernel_rfl) (by kernel_rfl) L1.out ?_
  with_reducible refine q_load 24 (.tmp 4) (.pointer (some ⟨w.heap.size + 1, 0, none⟩)) (wv y) rfl (by kernel_rfl) (by kernel_rfl) L2.out ?_
  with_reducible refine q_call 47 #[wv x, wv y] (.int .i64 s) (by kernel_rfl) (fun _ => by kernel_rfl) Ksab.out ?_
  with_reducible refine q_val (.int .i64 n) (by kernel_rfl) (fun _ _ => by kernel_rfl) ?_
  with_reducible refine q_val (.int .i64 s) (by kernel_rfl) (fun _ _ => by kernel_rfl) ?_
  with_reducible refine wpQuiet_nil ?_
  intro wx hC
  generalize hA : Act.put _ _ _ = A
  have hF : A = ({ tmps := #[.agg (pw x), .agg (pw y), .agg (pw z), .pointer (some ⟨w.heap.size, 0, none⟩), .pointer (some ⟨w.heap.size + 1, 0, none⟩), .pointer (some ⟨w.heap.size + 1 + 1, 0, none⟩), .bool false, .int .i64 n, .int .i64 s, wv x, wv y, .int .i64 n, wv x, wv y, .int .i64 s, undef, undef, undef, undef, undef, undef, undef, undef, undef, undef, undef, undef, undef, undef, undef, undef, undef, undef, undef, undef, undef, undef, undef, undef, undef, undef, undef, undef, undef, undef, undef, undef, undef, undef, undef, undef, undef, undef, undef, undef, undef, undef, undef, undef, undef, undef, undef, undef, undef, undef, undef, undef, undef, undef, undef, undef, undef, undef, undef, undef, undef, undef, undef, undef, undef, undef, undef, undef, undef, undef, undef], defers := [] } : Act) := by subst hA; kernel_rfl
  clear hA
  subst hF
  go_upto_region 2 with (fail)
  refine q_region (CW3 w x y z) hC ?_
  clear hC
  with_reducible refine q_val (.int .i64 n) (by kernel_rfl) (fun _ _ => by kernel_rfl) ?_
  with_reducible refine q_load 24 (.tmp 3) (.pointer (some ⟨w.heap.size, 0, none⟩)) (wv x) rfl (by kernel_rfl) (by kernel_rfl) L1.out ?_
  with_reducible refine q_load 24 (.tmp 4) (.pointer (some ⟨w.heap.size + 1, 0, none⟩)) (wv y) rfl (by kernel_rfl) (by kernel_rfl) L2.out ?_
  with_reducible refine q_call 48 #[wv x, wv y] (.int .i64 n) (by kernel_rfl) (fun _ => by kernel_rfl) Krab.out ?_
  with_reducible refine q_bin .neq 3 _ _ 3 (.int .i64 n) (.int .i64 n) (.bool false) rfl (by kernel_rfl) (by kernel_rfl) (by kernel_rfl) (ig _ _ _ _ _) (in_same _) ?_
  with_reducible refine q_val (.bool false) (by kernel_rfl) (fun _ _ => by kernel_rfl) ?_
  with_reducible refine q_val (.int .i64 s) (by kernel_rfl) (fun _ _ => by kernel_rfl) ?_
  with_reducible refine q_load 24 (.tmp 3) (.pointer (some ⟨w.heap.size, 0, none⟩)) (wv x) rfl (by kernel_rfl) (by kernel_rfl) L1.out ?_
  with_reducible refine q_load 24 (.tmp 4) (.pointer (some ⟨w.heap.size + 1, 0, none⟩)) (wv y) rfl (by kernel_rfl) (by kernel_rfl) L2.out ?_
  with_reducible refine q_call 49 #[wv x, wv y] (.int .i64 s) (by kernel_rfl) (fun _ => by kernel_rfl) Ktab.out ?_
  with_reducible refine q_bin .neq 3 _ _ 3 (.int .i64 s) (.int .i64 s) (.bool false) rfl (by kernel_rfl) (by kernel_rfl) (by kernel_rfl) (ig _ _ _ _ _) (in_same _) ?_
  with_reducible refine q_val (.bool false) (by kernel_rfl) (fun _ _ => by kernel_rfl) ?_
  with_reducible refine q_val (.bool false) (by kernel_rfl) (fun _ _ => by kernel_rfl) ?_
  with_reducible refine q_load 24 (.tmp 4) (.pointer (some ⟨w.heap.size + 1, 0, none⟩)) (wv y) rfl (by kernel_rfl) (by kernel_rfl) L2.out ?_
  with_reducible refine q_load 24 (.tmp 3) (.pointer (some ⟨w.heap.size, 0, none⟩)) (wv x) rfl (by kernel_rfl) (by kernel_rfl) L1.out ?_
  with_reducible refine q_call 22 #[wv y, wv x] (.int .i64 n') (by kernel_rfl) (fun _ => by kernel_rfl) Kcba.out ?_
  with_reducible refine q_val (.int .i64 n) (by kernel_rfl) (fun _ _ => by kernel_rfl) ?_
  with_reducible refine q_un .neg 3 _ (.int .i64 n) (.int .i64 n') rfl (by kernel_rfl) (by kernel_rfl) (un_neg _ _ HIn.out HMn.out) ?_
  with_reducible refine q_bin .neq 3 _ _ 3 (.int .i64 n') (.int .i64 n') (.bool false) rfl (by kernel_rfl) (by kernel_rfl) (by kernel_rfl) (ig _ _ _ _ _) (in_same _) ?_
  with_reducible refine q_val (.bool false) (by kernel_rfl) (fun _ _ => by kernel_rfl) ?_
  with_reducible refine q_val (.bool false) (by kernel_rfl) (fun _ _ => by kernel_rfl) ?_
  with_reducible refine q_load 24 (.tmp 4) (.pointer (some ⟨w.heap.size + 1, 0, none⟩)) (wv y) rfl (by kernel_rfl) (by kernel_rfl) L2.out ?_
  with_reducible refine q_load 24 (.tmp 3) (.pointer (some ⟨w.heap.size, 0, none⟩)) (wv x) rfl (by kernel_rfl) (by kernel_rfl) L1.out ?_
  with_reducible refine q_call 47 #[wv y, wv x] (.int .i64 s') (by kernel_rfl) (fun _ => by kernel_rfl) Ksba.out ?_
  with_reducible refine q_val (.int .i64 s) (by kernel_rfl) (fun _ _ => by kernel_rfl) ?_
  with_reducible refine q_un .neg 3 _ (.int .i64 s) (.int .i64 s') rfl (by kernel_rfl) (by kernel_rfl) (un_neg _ _ HIs.out HMs.out) ?_
  with_reducible refine q_bin .neq 3 _ _ 3 (.int .i64 s') (.int .i64 s') (.bool false) rfl (by kernel_rfl) (by kernel_rfl) (by kernel_rfl) (ig _ _ _ _ _) (in_same _) ?_
  with_reducible refine q_val (.bool false) (by kernel_rfl) (fun _ _ => by kernel_rfl) ?_
  with_reducible refine q_val (.bool false) (by kernel_rfl) (fun _ _ => by kernel_rfl) ?_
  with_reducible refine q_val (.int .i64 n) (by kernel_rfl) (fun _ _ => by kernel_rfl) ?_
  with_reducible refine q_bin .eql 3 _ _ 3 (.int .i64 n) (.int .i64 0) (.bool e) rfl (by kernel_rfl) (by kernel_rfl) (by kernel_rfl) (ig _ _ _ _ _) (ie_of _ _ _ HZn.out) ?_
  with_reducible refine q_load 24 (.tmp 3) (.pointer (some ⟨w.heap.size, 0, none⟩)) (wv x) rfl (by kernel_rfl) (by kernel_rfl) L1.out ?_
  with_reducible refine q_load 24 (.tmp 4) (.pointer (some ⟨w.heap.size + 1, 0, none⟩)) (wv y) rfl (by kernel_rfl) (by kernel_rfl) L2.out ?_
  with_reducible refine q_bin .eql 24 _ _ 24 (wv x) (wv y) (.bool e) rfl (by kernel_rfl) (by kernel_rfl) (by kernel_rfl) (eqgx _ _ _ _) HE.out ?_
  with_reducible refine q_bin .neq 4 _ _ 4 (.bool e) (.bool e) (.bool false) rfl (by kernel_rfl) (by kernel_rfl) (by kernel_rfl) (bg _ _ _ _) (bn_same _) ?_
  with_reducible refine q_val (.bool false) (by kernel_rfl) (fun _ _ => by kernel_rfl) ?_
  with_reducible refine q_val (.bool false) (by kernel_rfl) (fun _ _ => by kernel_rfl) ?_
  with_reducible refine q_val (.int .i64 s) (by kernel_rfl) (fun _ _ => by kernel_rfl) ?_
  with_reducible refine q_bin .eql 3 _ _ 3 (.int .i64 s) (.int .i64 0) (.bool e) rfl (by kernel_rfl) (by kernel_rfl) (by kernel_rfl) (ig _ _ _ _ _) (ie_of _ _ _ HZs.out) ?_
  with_reducible refine q_load 24 (.tmp 3) (.pointer (some ⟨w.heap.size, 0, none⟩)) (wv x) rfl (by kernel_rfl) (by kernel_rfl) L1.out ?_
  with_reducible refine q_load 24 (.tmp 4) (.pointer (some ⟨w.heap.size + 1, 0, none⟩)) (wv y) rfl (by kernel_rfl) (by kernel_rfl) L2.out ?_
  with_reducible refine q_bin .eql 24 _ _ 24 (wv x) (wv y) (.bool e) rfl (by kernel_rfl) (by kernel_rfl) (by kernel_rfl) (eqgx _ _ _ _) HE.out ?_
  with_reducible refine q_bin .neq 4 _ _ 4 (.bool e) (.bool e) (.bool false) rfl (by kernel_rfl) (by kernel_rfl) (by kernel_rfl) (bg _ _ _ _) (bn_same _) ?_
  with_reducible refine q_val (.bool false) (by kernel_rfl) (fun _ _ => by kernel_rfl) ?_
  with_reducible refine wpQuiet_nil ?_
  intro wx hC
  generalize hA : Act.put _ _ _ = A
  have hF : A = ({ tmps := #[.agg (pw x), .agg (pw y), .agg (pw z), .pointer (some ⟨w.heap.size, 0, none⟩), .pointer (some ⟨w.heap.size + 1, 0, none⟩), .pointer (some ⟨w.heap.size + 1 + 1, 0, none⟩), .bool false, .int .i64 n, .int .i64 s, wv x, wv y, .int .i64 n, wv x, wv y, .int .i64 s, .int .i64 n, wv x, wv y, .int .i64 n, .bool false, .bool false, .int .i64 s, wv x, wv y, .int .i64 s, .bool false, .bool false, .bool false, wv y, wv x, .int .i64 n', .int .i64 n, .int .i64 n', .bool false, .bool false, .bool false, wv y, wv x, .int .i64 s', .int .i64 s, .int .i64 s', .bool false, .bool false, .bool false, .int .i64 n, .bool e, wv x, wv y, .bool e, .bool false, .bool false, .bool false, .int .i64 s, .bool e, wv x, wv y, .bool e, .bool false, .bool false, undef, undef, undef, undef, undef, undef, undef, undef, undef, undef, undef, undef, undef, undef, undef, undef, undef, undef, undef, undef, undef, undef, undef, undef, undef, undef, undef], defers := [] } : Act) := by subst hA; kernel_rfl
  clear hA
  subst hF
  go_upto_region 4 with (fail)
  refine q_region (CW3 w x y z) hC ?_
  clear hC
  with_reducible refine q_load 24 (.tmp 4) (.pointer (some ⟨w.heap.size + 1, 0, none⟩)) (wv y) rfl (by kernel_rfl) (by kernel_rfl) L2.out ?_
  with_reducible refine q_load 24 (.tmp 5) (.pointer (some ⟨w.heap.size + 1 + 1, 0, none⟩)) (wv z) rfl (by kernel_rfl) (by kernel_rfl) L3.out ?_
  with_reducible refine q_call 22 #[wv y, wv z] (.int .i64 nb) (by kernel_rfl) (fun _ => by kernel_rfl) Kcbc.out ?_
  with_reducible refine q_val (.int .i64 n) (by kernel_rfl) (fun _ _ => by kernel_rfl) ?_
  with_reducible refine q_bin .eql 3 _ _ 3 (.int .i64 nb) (.int .i64 n) (.bool true) rfl (by kernel_rfl) (by kernel_rfl) (by kernel_rfl) (ig _ _ _ _ _) (ie_of _ _ _ HBn.out) ?_
  with_reducible refine q_val (.bool true) (by kernel_rfl) (fun _ _ => by kernel_rfl) ?_
  with_reducible refine q_load 24 (.tmp 3) (.pointer (some ⟨w.heap.size, 0, none⟩)) (wv x) rfl (by kernel_rfl) (by kernel_rfl) L1.out ?_
  with_reducible refine q_load 24 (.tmp 5) (.pointer (some ⟨w.heap.size + 1 + 1, 0, none⟩)) (wv z) rfl (by kernel_rfl) (by kernel_rfl) L3.out ?_
  with_reducible refine q_call 22 #[wv x, wv z] (.int .i64 n) (by kernel_rfl) (fun _ => by kernel_rfl) Kcac.out ?_
  with_reducible refine q_val (.int .i64 n) (by kernel_rfl) (fun _ _ => by kernel_rfl) ?_
  with_reducible refine q_bin .neq 3 _ _ 3 (.int .i64 n) (.int .i64 n) (.bool false) rfl (by kernel_rfl) (by kernel_rfl) (by kernel_rfl) (ig _ _ _ _ _) (in_same _) ?_
  with_reducible refine q_val (.bool false) (by kernel_rfl) (fun _ _ => by kernel_rfl) ?_
  with_reducible refine q_val (.bool false) (by kernel_rfl) (fun _ _ => by kernel_rfl) ?_
  with_reducible refine q_load 24 (.tmp 4) (.pointer (some ⟨w.heap.size + 1, 0, none⟩)) (wv y) rfl (by kernel_rfl) (by kernel_rfl) L2.out ?_
  with_reducible refine q_load 24 (.tmp 5) (.pointer (some ⟨w.heap.size + 1 + 1, 0, none⟩)) (wv z) rfl (by kernel_rfl) (by kernel_rfl) L3.out ?_
  with_reducible refine q_call 47 #[wv y, wv z] (.int .i64 sb) (by kernel_rfl) (fun _ => by kernel_rfl) Ksbc.out ?_
  with_reducible refine q_val (.int .i64 s) (by kernel_rfl) (fun _ _ => by kernel_rfl) ?_
  with_reducible refine q_bin .eql 3 _ _ 3 (.int .i64 sb) (.int .i64 s) (.bool true) rfl (by kernel_rfl) (by kernel_rfl) (by kernel_rfl) (ig _ _ _ _ _) (ie_of _ _ _ HBs.out) ?_
  with_reducible refine q_val (.bool true) (by kernel_rfl) (fun _ _ => by kernel_rfl) ?_
  with_reducible refine q_load 24 (.tmp 3) (.pointer (some ⟨w.heap.size, 0, none⟩)) (wv x) rfl (by kernel_rfl) (by kernel_rfl) L1.out ?_
  with_reducible refine q_load 24 (.tmp 5) (.pointer (some ⟨w.heap.size + 1 + 1, 0, none⟩)) (wv z) rfl (by kernel_rfl) (by kernel_rfl) L3.out ?_
  with_reducible refine q_call 47 #[wv x, wv z] (.int .i64 s) (by kernel_rfl) (fun _ => by kernel_rfl) Ksac.out ?_
  with_reducible refine q_val (.int .i64 s) (by kernel_rfl) (fun _ _ => by kernel_rfl) ?_
  with_reducible refine q_bin .neq 3 _ _ 3 (.int .i64 s) (.int .i64 s) (.bool false) rfl (by kernel_rfl) (by kernel_rfl) (by kernel_rfl) (ig _ _ _ _ _) (in_same _) ?_
  with_reducible refine q_val (.bool false) (by kernel_rfl) (fun _ _ => by kernel_rfl) ?_
  with_reducible refine q_val (.bool false) (by kernel_rfl) (fun _ _ => by kernel_rfl) ?_
  with_reducible refine wpQuiet_nil ?_
  intro wx hC
  generalize hA : Act.put _ _ _ = A
  have hF : A = ({ tmps := #[.agg (pw x), .agg (pw y), .agg (pw z), .pointer (some ⟨w.heap.size, 0, none⟩), .pointer (some ⟨w.heap.size + 1, 0, none⟩), .pointer (some ⟨w.heap.size + 1 + 1, 0, none⟩), .bool false, .int .i64 n, .int .i64 s, wv x, wv y, .int .i64 n, wv x, wv y, .int .i64 s, .int .i64 n, wv x, wv y, .int .i64 n, .bool false, .bool false, .int .i64 s, wv x, wv y, .int .i64 s, .bool false, .bool false, .bool false, wv y, wv x, .int .i64 n', .int .i64 n, .int .i64 n', .bool false, .bool false, .bool false, wv y, wv x, .int .i64 s', .int .i64 s, .int .i64 s', .bool false, .bool false, .bool false, .int .i64 n, .bool e, wv x, wv y, .bool e, .bool false, .bool false, .bool false, .int .i64 s, .bool e, wv x, wv y, .bool e, .bool false, .bool false, wv y, wv z, .int .i64 nb, .int .i64 n, .bool true, .bool true, wv x, wv z, .int .i64 n, .int .i64 n, .bool false, .bool false, .bool false, wv y, wv z, .int .i64 sb, .int .i64 s, .bool true, .bool true, wv x, wv z, .int .i64 s, .int .i64 s, .bool false, .bool false, .bool false, undef], defers := [] } : Act) := by subst hA; kernel_rfl
  clear hA
  subst hF
  have hB := hC.1
  clear hC
  go_wp2_with fail
  refine (Hlv.out _).mono ?_
  rintro e2 w2 ⟨rfl, hb⟩
  have hB2 : Below w.heap.size w w2 := hB.trans (hb.mono hB.size)
  clear hb hB
  go_wp2
  go_ret
  exact ⟨rfl, hB2⟩

set_option maxRecDepth 100000 in
set_option maxHeartbeats 2000000 in
theorem orders_true_false (x y z : Nat) (n s n' s' nb sb : Int) (e : Bool) (w : World)
    (hcab : ∀ w, Calls Tryd.prog 22 #[wv x, wv y] w fun e w' => e = .returned (.int .i64 n) ∧ Below w.heap.size w w')
    (hsab : ∀ w, Calls Tryd.prog 47 #[wv x, wv y] w fun e w' => e = .returned (.int .i64 s) ∧ Below w.heap.size w w')
    (hrab : ∀ w, Calls Tryd.prog 48 #[wv x, wv y] w fun e w' => e = .returned (.int .i64 n) ∧ Below w.heap.size w w')
    (htab : ∀ w, Calls Tryd.prog 49 #[wv x, wv y] w fun e w' => e = .returned (.int .i64 s) ∧ Below w.heap.size w w')
    (hcba : ∀ w, Calls Tryd.prog 22 #[wv y, wv x] w fun e w' => e = .returned (.int .i64 n') ∧ Below w.heap.size w w')
    (hsba : ∀ w, Calls Tryd.prog 47 #[wv y, wv x] w fun e w' => e = .returned (.int .i64 s') ∧ Below w.heap.size w w')
    (hcbc : ∀ w, Calls Tryd.prog 22 #[wv y, wv z] w fun e w' => e = .returned (.int .i64 nb) ∧ Below w.heap.size w w')
    (hsbc : ∀ w, Calls Tryd.prog 47 #[wv y, wv z] w fun e w' => e = .returned (.int .i64 sb) ∧ Below w.heap.size w w')
    (hcac : ∀ w, Calls Tryd.prog 22 #[wv x, wv z] w fun e w' => e = .returned (.int .i64 n) ∧ Below w.heap.size w w')
    (hIn : n = -1 ∨ n = 0 ∨ n = 1) (hIs : s = -1 ∨ s = 0 ∨ s = 1) (hMn : n' = -n) (hMs : s' = -s) (hZn : decide (n = 0) = e) (hZs : decide (s = 0) = e)
    (hE : ∀ w, (binOp BinOp.eql 24 (wv x) (wv y)).run Tryd.prog w = .ok (.bool e) w) (hBn : decide (nb = n) = true) (hBs : decide (sb = s) = false)
    (hlv : ∀ w, Calls Tryd.prog 19 #[] w fun e w' => e = .returned (.bool true) ∧ Below w.heap.size w w') :
    Calls Tryd.prog 8 #[wv x, wv y, wv z] w fun e w' => e = .returned (.bool true) ∧ Below w.heap.size w w' := by
  rw [wv_pw x, wv_pw y, wv_pw z]
  have L1 := Lib.hid (fun wx (hC : (CW3 w x y z) wx) => load_pw hC.2.1)
  have L2 := Lib.hid (fun wx (hC : (CW3 w x y z) wx) => load_pw hC.2.2.1)
  have L3 := Lib.hid (fun wx (hC : (CW3 w x y z) wx) => load_pw hC.2.2.2)
  have Kcab := Lib.hid (CW3.call (w := w) (x := x) (y := y) (z := z) hcab); clear hcab
  have Ksab := Lib.hid (CW3.call (w := w) (x := x) (y := y) (z := z) hsab); clear hsab
  have Krab := Lib.hid (CW3.call (w := w) (x := x) (y := y) (z := z) hrab); clear hrab
  have Ktab := Lib.hid (CW3.call (w := w) (x := x) (y := y) (z := z) htab); clear htab
  have Kcba := Lib.hid (CW3.call (w := w) (x := x) (y := y) (z := z) hcba); clear hcba
  have Ksba := Lib.hid (CW3.call (w := w) (x := x) (y := y) (z := z) hsba); clear hsba
  have Kcbc := Lib.hid (CW3.call (w := w) (x := x) (y := y) (z := z) hcbc); clear hcbc
  have Ksbc := Lib.hid (CW3.call (w := w) (x := x) (y := y) (z := z) hsbc); clear hsbc
  have Kcac := Lib.hid (CW3.call (w := w) (x := x) (y := y) (z := z) hcac); clear hcac
  have HIn := Lib.hid hIn; clear hIn
  have HIs := Lib.hid hIs; clear hIs
  have HMn := Lib.hid hMn; clear hMn
  have HMs := Lib.hid hMs; clear hMs
  have HZn := Lib.hid hZn; clear hZn
  have HZs := Lib.hid hZs; clear hZs
  have HE := Lib.hid hE; clear hE
  have HBn := Lib.hid hBn; clear hBn
  have HBs := Lib.hid hBs; clear hBs
  have Hlv := Lib.hid hlv; clear hlv
  go_enter Tryd.func8, Tryd.ntmps8
  go_upto_region 1 with (fail)
  refine wp_region_quiet (C := (CW3 w x y z)) (by kernel_rfl) (by kernel_rfl) ⟨Below.drew (by go_grown), (heap3 _ _ _ _).1, (heap3 _ _ _ _).2.1, (heap3 _ _ _ _).2.2⟩ ?_
  with_reducible refine q_load 24 (.tmp 3) (.pointer (some ⟨w.heap.size, 0, none⟩)) (wv x) rfl (by kernel_rfl) (by kernel_rfl) L1.out ?_
  with_reducible refine q_load 24 (.tmp 4) (.pointer (some ⟨w.heap.size + 1, 0, none⟩)) (wv y) rfl (by kernel_rfl) (by kernel_rfl) L2.out ?_
  with_reducible refine q_call 22 #[wv x, wv y] (.int .i64 n) (by kernel_rfl) (fun _ => by kernel_rfl) Kcab.out ?_
  with_reducible refine q_load 24 (.tmp 3) (.pointer (some ⟨w.heap.size, 0, none⟩)) (wv x) rfl (by kernel_rfl) (by kernel_rfl) L1.out ?_
  with_reducible refine q_load 24 (.tmp 4) (.pointer (some ⟨w.heap.size + 1, 0, none⟩)) (wv y) rfl (by kernel_rfl) (by kernel_rfl) L2.out ?_
  with_reducible refine q_call 47 #[wv x, wv y] (.int .i64 s) (by kernel_rfl) (fun _ => by kernel_rfl) Ksab.out ?_
  with_reducible refine q_val (.int .i64 n) (by kernel_rfl) (fun _ _ => by kernel_rfl) ?_
  with_reducible refine q_val (.int .i64 s) (by kernel_rfl) (fun _ _ => by kernel_rfl) ?_
  with_reducible refine wpQuiet_nil ?_
  intro wx hC
  generalize hA : Act.put _ _ _ = A
  have hF : A = ({ tmps := #[.agg (pw x), .agg (pw y), .agg (pw z), .pointer (some ⟨w.heap.size, 0, none⟩), .pointer (some ⟨w.heap.size + 1, 0, none⟩), .pointer (some ⟨w.heap.size + 1 + 1, 0, none⟩), .bool false, .int .i64 n, .int .i64 s, wv x, wv y, .int .i64 n, wv x, wv y, .int .i64 s, undef, undef, undef, undef, undef, undef, undef, undef, undef, undef, undef, undef, undef, undef, undef, undef, undef, undef, undef, undef, undef, undef, undef, undef, undef, undef, undef, undef, undef, undef, undef, undef, undef, undef, undef, undef, undef, undef, undef, undef, undef, undef, undef, undef, undef, undef, undef, undef, undef, undef, undef, undef, undef, undef, undef, undef, undef, undef, undef, undef, undef, undef, undef, undef, undef, undef, undef, undef, undef, undef, undef], defers := [] } : Act) := by subst hA; kernel_rfl
  clear hA
  subst hF
  go_upto_region 2 with (fail)
  refine q_region (CW3 w x y z) hC ?_
  clear hC
  with_reducible refine q_val (.int .i64 n) (by kernel_rfl) (fun _ _ => by kernel_rfl) ?_
  with_reducible refine q_load 24 (.tmp 3) (.pointer (some ⟨w.heap.size, 0, none⟩)) (wv x) rfl (by kernel_rfl) (by kernel_rfl) L1.out ?_
  with_reducible refine q_load 24 (.tmp 4) (.pointer (some ⟨w.heap.size + 1, 0, none⟩)) (wv y) rfl (by kernel_rfl) (by kernel_rfl) L2.out ?_
  with_reducible refine q_call 48 #[wv x, wv y] (.int .i64 n) (by kernel_rfl) (fun _ => by kernel_rfl) Krab.out ?_
  with_reducible refine q_bin .neq 3 _ _ 3 (.int .i64 n) (.int .i64 n) (.bool false) rfl (by kernel_rfl) (by kernel_rfl) (by kernel_rfl) (ig _ _ _ _ _) (in_same _) ?_
  with_reducible refine q_val (.bool false) (by kernel_rfl) (fun _ _ => by kernel_rfl) ?_
  with_reducible refine q_val (.int .i64 s) (by kernel_rfl) (fun _ _ => by kernel_rfl) ?_
  with_reducible refine q_load 24 (.tmp 3) (.pointer (some ⟨w.heap.size, 0, none⟩)) (wv x) rfl (by kernel_rfl) (by kernel_rfl) L1.out ?_
  with_reducible refine q_load 24 (.tmp 4) (.pointer (some ⟨w.heap.size + 1, 0, none⟩)) (wv y) rfl (by kernel_rfl) (by kernel_rfl) L2.out ?_
  with_reducible refine q_call 49 #[wv x, wv y] (.int .i64 s) (by kernel_rfl) (fun _ => by kernel_rfl) Ktab.out ?_
  with_reducible refine q_bin .neq 3 _ _ 3 (.int .i64 s) (.int .i64 s) (.bool false) rfl (by kernel_rfl) (by kernel_rfl) (by kernel_rfl) (ig _ _ _ _ _) (in_same _) ?_
  with_reducible refine q_val (.bool false) (by kernel_rfl) (fun _ _ => by kernel_rfl) ?_
  with_reducible refine q_val (.bool false) (by kernel_rfl) (fun _ _ => by kernel_rfl) ?_
  with_reducible refine q_load 24 (.tmp 4) (.pointer (some ⟨w.heap.size + 1, 0, none⟩)) (wv y) rfl (by kernel_rfl) (by kernel_rfl) L2.out ?_
  with_reducible refine q_load 24 (.tmp 3) (.pointer (some ⟨w.heap.size, 0, none⟩)) (wv x) rfl (by kernel_rfl) (by kernel_rfl) L1.out ?_
  with_reducible refine q_call 22 #[wv y, wv x] (.int .i64 n') (by kernel_rfl) (fun _ => by kernel_rfl) Kcba.out ?_
  with_reducible refine q_val (.int .i64 n) (by kernel_rfl) (fun _ _ => by kernel_rfl) ?_
  with_reducible refine q_un .neg 3 _ (.int .i64 n) (.int .i64 n') rfl (by kernel_rfl) (by kernel_rfl) (un_neg _ _ HIn.out HMn.out) ?_
  with_reducible refine q_bin .neq 3 _ _ 3 (.int .i64 n') (.int .i64 n') (.bool false) rfl (by kernel_rfl) (by kernel_rfl) (by kernel_rfl) (ig _ _ _ _ _) (in_same _) ?_
  with_reducible refine q_val (.bool false) (by kernel_rfl) (fun _ _ => by kernel_rfl) ?_
  with_reducible refine q_val (.bool false) (by kernel_rfl) (fun _ _ => by kernel_rfl) ?_
  with_reducible refine q_load 24 (.tmp 4) (.pointer (some ⟨w.heap.size + 1, 0, none⟩)) (wv y) rfl (by kernel_rfl) (by kernel_rfl) L2.out ?_
  with_reducible refine q_load 24 (.tmp 3) (.pointer (some ⟨w.heap.size, 0, none⟩)) (wv x) rfl (by kernel_rfl) (by kernel_rfl) L1.out ?_
  with_reducible refine q_call 47 #[wv y, wv x] (.int .i64 s') (by kernel_rfl) (fun _ => by kernel_rfl) Ksba.out ?_
  with_reducible refine q_val (.int .i64 s) (by kernel_rfl) (fun _ _ => by kernel_rfl) ?_
  with_reducible refine q_un .neg 3 _ (.int .i64 s) (.int .i64 s') rfl (by kernel_rfl) (by kernel_rfl) (un_neg _ _ HIs.out HMs.out) ?_
  with_reducible refine q_bin .neq 3 _ _ 3 (.int .i64 s') (.int .i64 s') (.bool false) rfl (by kernel_rfl) (by kernel_rfl) (by kernel_rfl) (ig _ _ _ _ _) (in_same _) ?_
  with_reducible refine q_val (.bool false) (by kernel_rfl) (fun _ _ => by kernel_rfl) ?_
  with_reducible refine q_val (.bool false) (by kernel_rfl) (fun _ _ => by kernel_rfl) ?_
  with_reducible refine q_val (.int .i64 n) (by kernel_rfl) (fun _ _ => by kernel_rfl) ?_
  with_reducible refine q_bin .eql 3 _ _ 3 (.int .i64 n) (.int .i64 0) (.bool e) rfl (by kernel_rfl) (by kernel_rfl) (by kernel_rfl) (ig _ _ _ _ _) (ie_of _ _ _ HZn.out) ?_
  with_reducible refine q_load 24 (.tmp 3) (.pointer (some ⟨w.heap.size, 0, none⟩)) (wv x) rfl (by kernel_rfl) (by kernel_rfl) L1.out ?_
  with_reducible refine q_load 24 (.tmp 4) (.pointer (some ⟨w.heap.size + 1, 0, none⟩)) (wv y) rfl (by kernel_rfl) (by kernel_rfl) L2.out ?_
  with_reducible refine q_bin .eql 24 _ _ 24 (wv x) (wv y) (.bool e) rfl (by kernel_rfl) (by kernel_rfl) (by kernel_rfl) (eqgx _ _ _ _) HE.out ?_
  with_reducible refine q_bin .neq 4 _ _ 4 (.bool e) (.bool e) (.bool false) rfl (by kernel_rfl) (by kernel_rfl) (by kernel_rfl) (bg _ _ _ _) (bn_same _) ?_
  with_reducible refine q_val (.bool false) (by kernel_rfl) (fun _ _ => by kernel_rfl) ?_
  with_reducible refine q_val (.bool false) (by kernel_rfl) (fun _ _ => by kernel_rfl) ?_
  with_reducible refine q_val (.int .i64 s) (by kernel_rfl) (fun _ _ => by kernel_rfl) ?_
  with_reducible refine q_bin .eql 3 _ _ 3 (.int .i64 s) (.int .i64 0) (.bool e) rfl (by kernel_rfl) (by kernel_rfl) (by kernel_rfl) (ig _ _ _ _ _) (ie_of _ _ _ HZs.out) ?_
  with_reducible refine q_load 24 (.tmp 3) (.pointer (some ⟨w.heap.size, 0, none⟩)) (wv x) rfl (by kernel_rfl) (by kernel_rfl) L1.out ?_
  with_reducible refine q_load 24 (.tmp 4) (.pointer (some ⟨w.heap.size + 1, 0, none⟩)) (wv y) rfl (by kernel_rfl) (by kernel_rfl) L2.out ?_
  with_reducible refine q_bin .eql 24 _ _ 24 (wv x) (wv y) (.bool e) rfl (by kernel_rfl) (by kernel_rfl) (by kernel_rfl) (eqgx _ _ _ _) HE.out ?_
  with_reducible refine q_bin .neq 4 _ _ 4 (.bool e) (.bool e) (.bool false) rfl (by kernel_rfl) (by kernel_rfl) (by kernel_rfl) (bg _ _ _ _) (bn_same _) ?_
  with_reducible refine q_val (.bool false) (by kernel_rfl) (fun _ _ => by kernel_rfl) ?_
  with_reducible refine wpQuiet_nil ?_
  intro wx hC
  generalize hA : Act.put _ _ _ = A
  have hF : A = ({ tmps := #[.agg (pw x), .agg (pw y), .agg (pw z), .pointer (some ⟨w.heap.size, 0, none⟩), .pointer (some ⟨w.heap.size + 1, 0, none⟩), .pointer (some ⟨w.heap.size + 1 + 1, 0, none⟩), .bool false, .int .i64 n, .int .i64 s, wv x, wv y, .int .i64 n, wv x, wv y, .int .i64 s, .int .i64 n, wv x, wv y, .int .i64 n, .bool false, .bool false, .int .i64 s, wv x, wv y, .int .i64 s, .bool false, .bool false, .bool false, wv y, wv x, .int .i64 n', .int .i64 n, .int .i64 n', .bool false, .bool false, .bool false, wv y, wv x, .int .i64 s', .int .i64 s, .int .i64 s', .bool false, .bool false, .bool false, .int .i64 n, .bool e, wv x, wv y, .bool e, .bool false, .bool false, .bool false, .int .i64 s, .bool e, wv x, wv y, .bool e, .bool false, .bool false, undef, undef, undef, undef, undef, undef, undef, undef, undef, undef, undef, undef, undef, undef, undef, undef, undef, undef, undef, undef, undef, undef, undef, undef, undef, undef, undef], defers := [] } : Act) := by subst hA; kernel_rfl
  clear hA
  subst hF
  go_upto_region 4 with (fail)
  refine q_region (CW3 w x y z) hC ?_
  clear hC
  with_reducible refine q_load 24 (.tmp 4) (.pointer (some ⟨w.heap.size + 1, 0, none⟩)) (wv y) rfl (by kernel_rfl) (by kernel_rfl) L2.out ?_
  with_reducible refine q_load 24 (.tmp 5) (.pointer (some ⟨w.heap.size + 1 + 1, 0, none⟩)) (wv z) rfl (by kernel_rfl) (by kernel_rfl) L3.out ?_
  with_reducible refine q_call 22 #[wv y, wv z] (.int .i64 nb) (by kernel_rfl) (fun _ => by kernel_rfl) Kcbc.out ?_
  with_reducible refine q_val (.int .i64 n) (by kernel_rfl) (fun _ _ => by kernel_rfl) ?_
  with_reducible refine q_bin .eql 3 _ _ 3 (.int .i64 nb) (.int .i64 n) (.bool true) rfl (by kernel_rfl) (by kernel_rfl) (by kernel_rfl) (ig _ _ _ _ _) (ie_of _ _ _ HBn.out) ?_
  with_reducible refine q_val (.bool true) (by kernel_rfl) (fun _ _ => by kernel_rfl) ?_
  with_reducible refine q_load 24 (.tmp 3) (.pointer (some ⟨w.heap.size, 0, none⟩)) (wv x) rfl (by kernel_rfl) (by kernel_rfl) L1.out ?_
  with_reducible refine q_load 24 (.tmp 5) (.pointer (some ⟨w.heap.size + 1 + 1, 0, none⟩)) (wv z) rfl (by kernel_rfl) (by kernel_rfl) L3.out ?_
  with_reducible refine q_call 22 #[wv x, wv z] (.int .i64 n) (by kernel_rfl) (fun _ => by kernel_rfl) Kcac.out ?_
  with_reducible refine q_val (.int .i64 n) (by kernel_rfl) (fun _ _ => by kernel_rfl) ?_
  with_reducible refine q_bin .neq 3 _ _ 3 (.int .i64 n) (.int .i64 n) (.bool false) rfl (by kernel_rfl) (by kernel_rfl) (by kernel_rfl) (ig _ _ _ _ _) (in_same _) ?_
  with_reducible refine q_val (.bool false) (by kernel_rfl) (fun _ _ => by kernel_rfl) ?_
  with_reducible refine q_val (.bool false) (by kernel_rfl) (fun _ _ => by kernel_rfl) ?_
  with_reducible refine q_load 24 (.tmp 4) (.pointer (some ⟨w.heap.size + 1, 0, none⟩)) (wv y) rfl (by kernel_rfl) (by kernel_rfl) L2.out ?_
  with_reducible refine q_load 24 (.tmp 5) (.pointer (some ⟨w.heap.size + 1 + 1, 0, none⟩)) (wv z) rfl (by kernel_rfl) (by kernel_rfl) L3.out ?_
  with_reducible refine q_call 47 #[wv y, wv z] (.int .i64 sb) (by kernel_rfl) (fun _ => by kernel_rfl) Ksbc.out ?_
  with_reducible refine q_val (.int .i64 s) (by kernel_rfl) (fun _ _ => by kernel_rfl) ?_
  with_reducible refine q_bin .eql 3 _ _ 3 (.int .i64 sb) (.int .i64 s) (.bool false) rfl (by kernel_rfl) (by kernel_rfl) (by kernel_rfl) (ig _ _ _ _ _) (ie_of _ _ _ HBs.out) ?_
  with_reducible refine q_val (.bool false) (by kernel_rfl) (fun _ _ => by kernel_rfl) ?_
  with_reducible refine q_skip (by kernel_rfl) ?_
  with_reducible refine q_skip (by kernel_rfl) ?_
  with_reducible refine q_skip (by kernel_rfl) ?_
  with_reducible refine q_skip (by kernel_rfl) ?_
  with_reducible refine q_skip (by kernel_rfl) ?_
  with_reducible refine q_val (.bool false) (by kernel_rfl) (fun _ _ => by kernel_rfl) ?_
  with_reducible refine q_val (.bool false) (by kernel_rfl) (fun _ _ => by kernel_rfl) ?_
  with_reducible refine wpQuiet_nil ?_
  intro wx hC
  generalize hA : Act.put _ _ _ = A
  have hF : A = ({ tmps := #[.agg (pw x), .agg (pw y), .agg (pw z), .pointer (some ⟨w.heap.size, 0, none⟩), .pointer (some ⟨w.heap.size + 1, 0, none⟩), .pointer (some ⟨w.heap.size + 1 + 1, 0, none⟩), .bool false, .int .i64 n, .int .i64 s, wv x, wv y, .int .i64 n, wv x, wv y, .int .i64 s, .int .i64 n, wv x, wv y, .int .i64 n, .bool false, .bool false, .int .i64 s, wv x, wv y, .int .i64 s, .bool false, .bool false, .bool false, wv y, wv x, .int .i64 n', .int .i64 n, .int .i64 n', .bool false, .bool false, .bool false, wv y, wv x, .int .i64 s', .int .i64 s, .int .i64 s', .bool false, .bool false, .bool false, .int .i64 n, .bool e, wv x, wv y, .bool e, .bool false, .bool false, .bool false, .int .i64 s, .bool e, wv x, wv y, .bool e, .bool false, .bool false, wv y, wv z, .int .i64 nb, .int .i64 n, .bool true, .bool true, wv x, wv z, .int .i64 n, .int .i64 n, .bool false, .bool false, .bool false, wv y, wv z, .int .i64 sb, .int .i64 s, .bool false, .bool false, undef, undef, undef, undef, undef, .bool false, .bool false, undef], defers := [] } : Act) := by subst hA; kernel_rfl
  clear hA
  subst hF
  have hB := hC.1
  clear hC
  go_wp2_with fail
  refine (Hlv.out _).mono ?_
  rintro e2 w2 ⟨rfl, hb⟩
  have hB2 : Below w.heap.size w w2 := hB.trans (hb.mono hB.size)
  clear hb hB
  go_wp2
  go_ret
  exact ⟨rfl, hB2⟩

set_option maxRecDepth 100000 in
set_option maxHeartbeats 2000000 in
theorem orders_false_true (x y z : Nat) (n s n' s' nb sb : Int) (e : Bool) (w : World)
    (hcab : ∀ w, Calls Tryd.prog 22 #[wv x, wv y] w fun e w' => e = .returned (.int .i64 n) ∧ Below w.heap.size w w')
    (hsab : ∀ w, Calls Tryd.prog 47 #[wv x, wv y] w fun e w' => e = .returned (.int .i64 s) ∧ Below w.heap.size w w')
    (hrab : ∀ w, Calls Tryd.prog 48 #[wv x, wv y] w fun e w' => e = .returned (.int .i64 n) ∧ Below w.heap.size w w')
    (htab : ∀ w, Calls Tryd.prog 49 #[wv x, wv y] w fun e w' => e = .returned (.int .i64 s) ∧ Below w.heap.size w w')
    (hcba : ∀ w, Calls Tryd.prog 22 #[wv y, wv x] w fun e w' => e = .returned (.int .i64 n') ∧ Below w.heap.size w w')
    (hsba : ∀ w, Calls Tryd.prog 47 #[wv y, wv x] w fun e w' => e = .returned (.int .i64 s') ∧ Below w.heap.size w w')
    (hcbc : ∀ w, Calls Tryd.prog 22 #[wv y, wv z] w fun e w' => e = .returned (.int .i64 nb) ∧ Below w.heap.size w w')
    (hsbc : ∀ w, Calls Tryd.prog 47 #[wv y, wv z] w fun e w' => e = .returned (.int .i64 sb) ∧ Below w.heap.size w w')
    (hsac : ∀ w, Calls Tryd.prog 47 #[wv x, wv z] w fun e w' => e = .returned (.int .i64 s) ∧ Below w.heap.size w w')
    (hIn : n = -1 ∨ n = 0 ∨ n = 1) (hIs : s = -1 ∨ s = 0 ∨ s = 1) (hMn : n' = -n) (hMs : s' = -s) (hZn : decide (n = 0) = e) (hZs : decide (s = 0) = e)
    (hE : ∀ w, (binOp BinOp.eql 24 (wv x) (wv y)).run Tryd.prog w = .ok (.bool e) w) (hBn : decide (nb = n) = false) (hBs : decide (sb = s) = true)
    (hlv : ∀ w, Calls Tryd.prog 19 #[] w fun e w' => e = .returned (.bool true) ∧ Below w.heap.size w w') :
    Calls Tryd.prog 8 #[wv x, wv y, wv z] w fun e w' => e = .returned (.bool true) ∧ Below w.heap.size w w' := by
  rw [wv_pw x, wv_pw y, wv_pw z]
  have L1 := Lib.hid (fun wx (hC : (CW3 w x y z) wx) => load_pw hC.2.1)
  have L2 := Lib.hid (fun wx (hC : (CW3 w x y z) wx) => load_pw hC.2.2.1)
  have L3 := Lib.hid (fun wx (hC : (CW3 w x y z) wx) => load_pw hC.2.2.2)
  have Kcab := Lib.hid (CW3.call (w := w) (x := x) (y := y) (z := z) hcab); clear hcab
  have Ksab := Lib.hid (CW3.call (w := w) (x := x) (y := y) (z := z) hsab); clear hsab
  have Krab := Lib.hid (CW3.call (w := w) (x := x) (y := y) (z := z) hrab); clear hrab
  have Ktab := Lib.hid (CW3.call (w := w) (x := x) (y := y) (z := z) htab); clear htab
  have Kcba := Lib.hid (CW3.call (w := w) (x := x) (y := y) (z := z) hcba); clear hcba
  have Ksba := Lib.hid (CW3.call (w := w) (x := x) (y := y) (z := z) hsba); clear hsba
  have Kcbc := Lib.hid (CW3.call (w := w) (x := x) (y := y) (z := z) hcbc); clear hcbc
  have Ksbc := Lib.hid (CW3.call (w := w) (x := x) (y := y) (z := z) hsbc); clear hsbc
  have Ksac := Lib.hid (CW3.call (w := w) (x := x) (y := y) (z := z) hsac); clear hsac
  have HIn := Lib.hid hIn; clear hIn
  have HIs := Lib.hid hIs; clear hIs
  have HMn := Lib.hid hMn; clear hMn
  have HMs := Lib.hid hMs; clear hMs
  have HZn := Lib.hid hZn; clear hZn
  have HZs := Lib.hid hZs; clear hZs
  have HE := Lib.hid hE; clear hE
  have HBn := Lib.hid hBn; clear hBn
  have HBs := Lib.hid hBs; clear hBs
  have Hlv := Lib.hid hlv; clear hlv
  go_enter Tryd.func8, Tryd.ntmps8
  go_upto_region 1 with (fail)
  refine wp_region_quiet (C := (CW3 w x y z)) (by kernel_rfl) (by kernel_rfl) ⟨Below.drew (by go_grown), (heap3 _ _ _ _).1, (heap3 _ _ _ _).2.1, (heap3 _ _ _ _).2.2⟩ ?_
  with_reducible refine q_load 24 (.tmp 3) (.pointer (some ⟨w.heap.size, 0, none⟩)) (wv x) rfl (by kernel_rfl) (by kernel_rfl) L1.out ?_
  with_reducible refine q_load 24 (.tmp 4) (.pointer (some ⟨w.heap.size + 1, 0, none⟩)) (wv y) rfl (by kernel_rfl) (by kernel_rfl) L2.out ?_
  with_reducible refine q_call 22 #[wv x, wv y] (.int .i64 n) (by kernel_rfl) (fun _ => by kernel_rfl) Kcab.out ?_
  with_reducible refine q_load 24 (.tmp 3) (.pointer (some ⟨w.heap.size, 0, none⟩)) (wv x) rfl (by kernel_rfl) (by kernel_rfl) L1.out ?_
  with_reducible refine q_load 24 (.tmp 4) (.pointer (some ⟨w.heap.size + 1, 0, none⟩)) (wv y) rfl (by kernel_rfl) (by kernel_rfl) L2.out ?_
  with_reducible refine q_call 47 #[wv x, wv y] (.int .i64 s) (by kernel_rfl) (fun _ => by kernel_rfl) Ksab.out ?_
  with_reducible refine q_val (.int .i64 n) (by kernel_rfl) (fun _ _ => by kernel_rfl) ?_
  with_reducible refine q_val (.int .i64 s) (by kernel_rfl) (fun _ _ => by kernel_rfl) ?_
  with_reducible refine wpQuiet_nil ?_
  intro wx hC
  generalize hA : Act.put _ _ _ = A
  have hF : A = ({ tmps := #[.agg (pw x), .agg (pw y), .agg (pw z), .pointer (some ⟨w.heap.size, 0, none⟩), .pointer (some ⟨w.heap.size + 1, 0, none⟩), .pointer (some ⟨w.heap.size + 1 + 1, 0, none⟩), .bool false, .int .i64 n, .int .i64 s, wv x, wv y, .int .i64 n, wv x, wv y, .int .i64 s, undef, undef, undef, undef, undef, undef, undef, undef, undef, undef, undef, undef, undef, undef, undef, undef, undef, undef, undef, undef, undef, undef, undef, undef, undef, undef, undef, undef, undef, undef, undef, undef, undef, undef, undef, undef, undef, undef, undef, undef, undef, undef, undef, undef, undef, undef, undef, undef, undef, undef, undef, undef, undef, undef, undef, undef, undef, undef, undef, undef, undef, undef, undef, undef, undef, undef, undef, undef, undef, undef, undef], defers := [] } : Act) := by subst hA; kernel_rfl
  clear hA
  subst hF
  go_upto_region 2 with (fail)
  refine q_region (CW3 w x y z) hC ?_
  clear hC
  with_reducible refine q_val (.int .i64 n) (by kernel_rfl) (fun _ _ => by kernel_rfl) ?_
  with_reducible refine q_load 24 (.tmp 3) (.pointer (some ⟨w.heap.size, 0, none⟩)) (wv x) rfl (by kernel_rfl) (by kernel_rfl) L1.out ?_
  with_reducible refine q_load 24 (.tmp 4) (.pointer (some ⟨w.heap.size + 1, 0, none⟩)) (wv y) rfl (by kernel_rfl) (by kernel_rfl) L2.out ?_
  with_reducible refine q_call 48 #[wv x, wv y] (.int .i64 n) (by kernel_rfl) (fun _ => by kernel_rfl) Krab.out ?_
  with_reducible refine q_bin .neq 3 _ _ 3 (.int .i64 n) (.int .i64 n) (.bool false) rfl (by kernel_rfl) (by kernel_rfl) (by kernel_rfl) (ig _ _ _ _ _) (in_same _) ?_
  with_reducible refine q_val (.bool false) (by kernel_rfl) (fun _ _ => by kernel_rfl) ?_
  with_reducible refine q_val (.int .i64 s) (by kernel_rfl) (fun _ _ => by kernel_rfl) ?_
  with_reducible refine q_load 24 (.tmp 3) (.pointer (some ⟨w.heap.size, 0, none⟩)) (wv x) rfl (by kernel_rfl) (by kernel_rfl) L1.out ?_
  with_reducible refine q_load 24 (.tmp 4) (.pointer (some ⟨w.heap.size + 1, 0, none⟩)) (wv y) rfl (by kernel_rfl) (by kernel_rfl) L2.out ?_
  with_reducible refine q_call 49 #[wv x, wv y] (.int .i64 s) (by kernel_rfl) (fun _ => by kernel_rfl) Ktab.out ?_
  with_reducible refine q_bin .neq 3 _ _ 3 (.int .i64 s) (.int .i64 s) (.bool false) rfl (by kernel_rfl) (by kernel_rfl) (by kernel_rfl) (ig _ _ _ _ _) (in_same _) ?_
  with_reducible refine q_val (.bool false) (by kernel_rfl) (fun _ _ => by kernel_rfl) ?_
  with_reducible refine q_val (.bool false) (by kernel_rfl) (fun _ _ => by kernel_rfl) ?_
  with_reducible refine q_load 24 (.tmp 4) (.pointer (some ⟨w.heap.size + 1, 0, none⟩)) (wv y) rfl (by kernel_rfl) (by kernel_rfl) L2.out ?_
  with_reducible refine q_load 24 (.tmp 3) (.pointer (some ⟨w.heap.size, 0, none⟩)) (wv x) rfl (by kernel_rfl) (by kernel_rfl) L1.out ?_
  with_reducible refine q_call 22 #[wv y, wv x] (.int .i64 n') (by kernel_rfl) (fun _ => by kernel_rfl) Kcba.out ?_
  with_reducible refine q_val (.int .i64 n) (by kernel_rfl) (fun _ _ => by kernel_rfl) ?_
  with_reducible refine q_un .neg 3 _ (.int .i64 n) (.int .i64 n') rfl (by kernel_rfl) (by kernel_rfl) (un_neg _ _ HIn.out HMn.out) ?_
  with_reducible refine q_bin .neq 3 _ _ 3 (.int .i64 n') (.int .i64 n') (.bool false) rfl (by kernel_rfl) (by kernel_rfl) (by kernel_rfl) (ig _ _ _ _ _) (in_same _) ?_
  with_reducible refine q_val (.bool false) (by kernel_rfl) (fun _ _ => by kernel_rfl) ?_
  with_reducible refine q_val (.bool false) (by kernel_rfl) (fun _ _ => by kernel_rfl) ?_
  with_reducible refine q_load 24 (.tmp 4) (.pointer (some ⟨w.heap.size + 1, 0, none⟩)) (wv y) rfl (by kernel_rfl) (by kernel_rfl) L2.out ?_
  with_reducible refine q_load 24 (.tmp 3) (.pointer (some ⟨w.heap.size, 0, none⟩)) (wv x) rfl (by kernel_rfl) (by kernel_rfl) L1.out ?_
  with_reducible refine q_call 47 #[wv y, wv x] (.int .i64 s') (by kernel_rfl) (fun _ => by kernel_rfl) Ksba.out ?_
  with_reducible refine q_val (.int .i64 s) (by kernel_rfl) (fun _ _ => by kernel_rfl) ?_
  with_reducible refine q_un .neg 3 _ (.int .i64 s) (.int .i64 s') rfl (by kernel_rfl) (by kernel_rfl) (un_neg _ _ HIs.out HMs.out) ?_
  with_reducible refine q_bin .neq 3 _ _ 3 (.int .i64 s') (.int .i64 s') (.bool false) rfl (by kernel_rfl) (by kernel_rfl) (by kernel_rfl) (ig _ _ _ _ _) (in_same _) ?_
  with_reducible refine q_val (.bool false) (by kernel_rfl) (fun _ _ => by kernel_rfl) ?_
  with_reducible refine q_val (.bool false) (by kernel_rfl) (fun _ _ => by kernel_rfl) ?_
  with_reducible refine q_val (.int .i64 n) (by kernel_rfl) (fun _ _ => by kernel_rfl) ?_
  with_reducible refine q_bin .eql 3 _ _ 3 (.int .i64 n) (.int .i64 0) (.bool e) rfl (by kernel_rfl) (by kernel_rfl) (by kernel_rfl) (ig _ _ _ _ _) (ie_of _ _ _ HZn.out) ?_
  with_reducible refine q_load 24 (.tmp 3) (.pointer (some ⟨w.heap.size, 0, none⟩)) (wv x) rfl (by kernel_rfl) (by kernel_rfl) L1.out ?_
  with_reducible refine q_load 24 (.tmp 4) (.pointer (some ⟨w.heap.size + 1, 0, none⟩)) (wv y) rfl (by kernel_rfl) (by kernel_rfl) L2.out ?_
  with_reducible refine q_bin .eql 24 _ _ 24 (wv x) (wv y) (.bool e) rfl (by kernel_rfl) (by kernel_rfl) (by kernel_rfl) (eqgx _ _ _ _) HE.out ?_
  with_reducible refine q_bin .neq 4 _ _ 4 (.bool e) (.bool e) (.bool false) rfl (by kernel_rfl) (by kernel_rfl) (by kernel_rfl) (bg _ _ _ _) (bn_same _) ?_
  with_reducible refine q_val (.bool false) (by kernel_rfl) (fun _ _ => by kernel_rfl) ?_
  with_reducible refine q_val (.bool false) (by kernel_rfl) (fun _ _ => by kernel_rfl) ?_
  with_reducible refine q_val (.int .i64 s) (by kernel_rfl) (fun _ _ => by kernel_rfl) ?_
  with_reducible refine q_bin .eql 3 _ _ 3 (.int .i64 s) (.int .i64 0) (.bool e) rfl (by kernel_rfl) (by kernel_rfl) (by kernel_rfl) (ig _ _ _ _ _) (ie_of _ _ _ HZs.out) ?_
  with_reducible refine q_load 24 (.tmp 3) (.pointer (some ⟨w.heap.size, 0, none⟩)) (wv x) rfl (by kernel_rfl) (by kernel_rfl) L1.out ?_
  with_reducible refine q_load 24 (.tmp 4) (.pointer (some ⟨w.heap.size + 1, 0, none⟩)) (wv y) rfl (by kernel_rfl) (by kernel_rfl) L2.out ?_
  with_reducible refine q_bin .eql 24 _ _ 24 (wv x) (wv y) (.bool e) rfl (by kernel_rfl) (by kernel_rfl) (by kernel_rfl) (eqgx _ _ _ _) HE.out ?_
  with_reducible refine q_bin .neq 4 _ _ 4 (.bool e) (.bool e) (.bool false) rfl (by kernel_rfl) (by kernel_rfl) (by kernel_rfl) (bg _ _ _ _) (bn_same _) ?_
  with_reducible refine q_val (.bool false) (by kernel_rfl) (fun _ _ => by kernel_rfl) ?_
  with_reducible refine wpQuiet_nil ?_
  intro wx hC
  generalize hA : Act.put _ _ _ = A
  have hF : A = ({ tmps := #[.agg (pw x), .agg (pw y), .agg (pw z), .pointer (some ⟨w.heap.size, 0, none⟩), .pointer (some ⟨w.heap.size + 1, 0, none⟩), .pointer (some ⟨w.heap.size + 1 + 1, 0, none⟩), .bool false, .int .i64 n, .int .i64 s, wv x, wv y, .int .i64 n, wv x, wv y, .int .i64 s, .int .i64 n, wv x, wv y, .int .i64 n, .bool false, .bool false, .int .i64 s, wv x, wv y, .int .i64 s, .bool false, .bool false, .bool false, wv y, wv x, .int .i64 n', .int .i64 n, .int .i64 n', .bool false, .bool false, .bool false, wv y, wv x, .int .i64 s', .int .i64 s, .int .i64 s', .bool false, .bool false, .bool false, .int .i64 n, .bool e, wv x, wv y, .bool e, .bool false, .bool false, .bool false, .int .i64 s, .bool e, wv x, wv y, .bool e, .bool false, .bool false, undef, undef, undef, undef, undef, undef, undef, undef, undef, undef, undef, undef, undef, undef, undef, undef, undef, undef, undef, undef, undef, undef, undef, undef, undef, undef, undef], defers := [] } : Act) := by subst hA; kernel_rfl
  clear hA
  subst hF
  go_upto_region 4 with (fail)
  refine q_region (CW3 w x y z) hC ?_
  clear hC
  with_reducible refine q_load 24 (.tmp 4) (.pointer (some ⟨w.heap.size + 1, 0, none⟩)) (wv y) rfl (by kernel_rfl) (by kernel_rfl) L2.out ?_
  with_reducible refine q_load 24 (.tmp 5) (.pointer (some ⟨w.heap.size + 1 + 1, 0, none⟩)) (wv z) rfl (by kernel_rfl) (by kernel_rfl) L3.out ?_
  with_reducible refine q_call 22 #[wv y, wv z] (.int .i64 nb) (by kernel_rfl) (fun _ => by kernel_rfl) Kcbc.out ?_
  with_reducible refine q_val (.int .i64 n) (by kernel_rfl) (fun _ _ => by kernel_rfl) ?_
  with_reducible refine q_bin .eql 3 _ _ 3 (.int .i64 nb) (.int .i64 n) (.bool false) rfl (by kernel_rfl) (by kernel_rfl) (by kernel_rfl) (ig _ _ _ _ _) (ie_of _ _ _ HBn.out) ?_
  with_reducible refine q_val (.bool false) (by kernel_rfl) (fun _ _ => by kernel_rfl) ?_
  with_reducible refine q_skip (by kernel_rfl) ?_
  with_reducible refine q_skip (by kernel_rfl) ?_
  with_reducible refine q_skip (by kernel_rfl) ?_
  with_reducible refine q_skip (by kernel_rfl) ?_
  with_reducible refine q_skip (by kernel_rfl) ?_
  with_reducible refine q_val (.bool false) (by kernel_rfl) (fun _ _ => by kernel_rfl) ?_
  with_reducible refine q_val (.bool false) (by kernel_rfl) (fun _ _ => by kernel_rfl) ?_
  with_reducible refine q_load 24 (.tmp 4) (.pointer (some ⟨w.heap.size + 1, 0, none⟩)) (wv y) rfl (by kernel_rfl) (by kernel_rfl) L2.out ?_
  with_reducible refine q_load 24 (.tmp 5) (.pointer (some ⟨w.heap.size + 1 + 1, 0, none⟩)) (wv z) rfl (by kernel_rfl) (by kernel_rfl) L3.out ?_
  with_reducible refine q_call 47 #[wv y, wv z] (.int .i64 sb) (by kernel_rfl) (fun _ => by kernel_rfl) Ksbc.out ?_
  with_reducible refine q_val (.int .i64 s) (by kernel_rfl) (fun _ _ => by kernel_rfl) ?_
  with_reducible refine q_bin .eql 3 _ _ 3 (.int .i64 sb) (.int .i64 s) (.bool true) rfl (by kernel_rfl) (by kernel_rfl) (by kernel_rfl) (ig _ _ _ _ _) (ie_of _ _ _ HBs.out) ?_
  with_reducible refine q_val (.bool true) (by kernel_rfl) (fun _ _ => by kernel_rfl) ?_
  with_reducible refine q_load 24 (.tmp 3) (.pointer (some ⟨w.heap.size, 0, none⟩)) (wv x) rfl (by kernel_rfl) (by kernel_rfl) L1.out ?_
  with_reducible refine q_load 24 (.tmp 5) (.pointer (some ⟨w.heap.size + 1 + 1, 0, none⟩)) (wv z) rfl (by kernel_rfl) (by kernel_rfl) L3.out ?_
  with_reducible refine q_call 47 #[wv x, wv z] (.int .i64 s) (by kernel_rfl) (fun _ => by kernel_rfl) Ksac.out ?_
  with_reducible refine q_val (.int .i64 s) (by kernel_rfl) (fun _ _ => by kernel_rfl) ?_
  with_reducible refine q_bin .neq 3 _ _ 3 (.int .i64 s) (.int .i64 s) (.bool false) rfl (by kernel_rfl) (by kernel_rfl) (by kernel_rfl) (ig _ _ _ _ _) (in_same _) ?_
  with_reducible refine q_val (.bool false) (by kernel_rfl) (fun _ _ => by kernel_rfl) ?_
  with_reducible refine q_val (.bool false) (by kernel_rfl) (fun _ _ => by kernel_rfl) ?_
  with_reducible refine wpQuiet_nil ?_
  intro wx hC
  generalize hA : Act.put _ _ _ = A
  have hF : A = ({ tmps := #[.agg (pw x), .agg (pw y), .agg (pw z), .pointer (some ⟨w.heap.size, 0, none⟩), .pointer (some ⟨w.heap.size + 1, 0, none⟩), .pointer (some ⟨w.heap.size + 1 + 1, 0, none⟩), .bool false, .int .i64 n, .int .i64 s, wv x, wv y, .int .i64 n, wv x, wv y, .int .i64 s, .int .i64 n, wv x, wv y, .int .i64 n, .bool false, .bool false, .int .i64 s, wv x, wv y, .int .i64 s, .bool false, .bool false, .bool false, wv y, wv x, .int .i64 n', .int .i64 n, .int .i64 n', .bool false, .bool false, .bool false, wv y, wv x, .int .i64 s', .int .i64 s, .int .i64 s', .bool false, .bool false, .bool false, .int .i64 n, .bool e, wv x, wv y, .bool e, .bool false, .bool false, .bool false, .int .i64 s, .bool e, wv x, wv y, .bool e, .bool false, .bool false, wv y, wv z, .int .i64 nb, .int .i64 n, .bool false, .bool false, undef, undef, undef, undef, undef, .bool false, .bool false, wv y, wv z, .int .i64 sb, .int .i64 s, .bool true, .bool true, wv x, wv z, .int .i64 s, .int .i64 s, .bool false, .bool false, .bool false, undef], defers := [] } : Act) := by subst hA; kernel_rfl
  clear hA
  subst hF
  have hB := hC.1
  clear hC
  go_wp2_with fail
  refine (Hlv.out _).mono ?_
  rintro e2 w2 ⟨rfl, hb⟩
  have hB2 : Below w.heap.size w w2 := hB.trans (hb.mono hB.size)
  clear hb hB
  go_wp2
  go_ret
  exact ⟨rfl, hB2⟩

set_option maxRecDepth 100000 in
set_option maxHeartbeats 2000000 in
theorem orders_false_false (x y z : Nat) (n s n' s' nb sb : Int) (e : Bool) (w : World)
    (hcab : ∀ w, Calls Tryd.prog 22 #[wv x, wv y] w fun e w' => e = .returned (.int .i64 n) ∧ Below w.heap.size w w')
    (hsab : ∀ w, Calls Tryd.prog 47 #[wv x, wv y] w fun e w' => e = .returned (.int .i64 s) ∧ Below w.heap.size w w')
    (hrab : ∀ w, Calls Tryd.prog 48 #[wv x, wv y] w fun e w' => e = .returned (.int .i64 n) ∧ Below w.heap.size w w')
    (htab : ∀ w, Calls Tryd.prog 49 #[wv x, wv y] w fun e w' => e = .returned (.int .i64 s) ∧ Below w.heap.size w w')
    (hcba : ∀ w, Calls Tryd.prog 22 #[wv y, wv x] w fun e w' => e = .returned (.int .i64 n') ∧ Below w.heap.size w w')
    (hsba : ∀ w, Calls Tryd.prog 47 #[wv y, wv x] w fun e w' => e = .returned (.int .i64 s') ∧ Below w.heap.size w w')
    (hcbc : ∀ w, Calls Tryd.prog 22 #[wv y, wv z] w fun e w' => e = .returned (.int .i64 nb) ∧ Below w.heap.size w w')
    (hsbc : ∀ w, Calls Tryd.prog 47 #[wv y, wv z] w fun e w' => e = .returned (.int .i64 sb) ∧ Below w.heap.size w w')
    (hIn : n = -1 ∨ n = 0 ∨ n = 1) (hIs : s = -1 ∨ s = 0 ∨ s = 1) (hMn : n' = -n) (hMs : s' = -s) (hZn : decide (n = 0) = e) (hZs : decide (s = 0) = e)
    (hE : ∀ w, (binOp BinOp.eql 24 (wv x) (wv y)).run Tryd.prog w = .ok (.bool e) w) (hBn : decide (nb = n) = false) (hBs : decide (sb = s) = false)
    (hlv : ∀ w, Calls Tryd.prog 19 #[] w fun e w' => e = .returned (.bool true) ∧ Below w.heap.size w w') :
    Calls Tryd.prog 8 #[wv x, wv y, wv z] w fun e w' => e = .returned (.bool true) ∧ Below w.heap.size w w' := by
  rw [wv_pw x, wv_pw y, wv_pw z]
  have L1 := Lib.hid (fun wx (hC : (CW3 w x y z) wx) => load_pw hC.2.1)
  have L2 := Lib.hid (fun wx (hC : (CW3 w x y z) wx) => load_pw hC.2.2.1)
  have L3 := Lib.hid (fun wx (hC : (CW3 w x y z) wx) => load_pw hC.2.2.2)
  have Kcab := Lib.hid (CW3.call (w := w) (x := x) (y := y) (z := z) hcab); clear hcab
  have Ksab := Lib.hid (CW3.call (w := w) (x := x) (y := y) (z := z) hsab); clear hsab
  have Krab := Lib.hid (CW3.call (w := w) (x := x) (y := y) (z := z) hrab); clear hrab
  have Ktab := Lib.hid (CW3.call (w := w) (x := x) (y := y) (z := z) htab); clear htab
  have Kcba := Lib.hid (CW3.call (w := w) (x := x) (y := y) (z := z) hcba); clear hcba
  have Ksba := Lib.hid (CW3.call (w := w) (x := x) (y := y) (z := z) hsba); clear hsba
  have Kcbc := Lib.hid (CW3.call (w := w) (x := x) (y := y) (z := z) hcbc); clear hcbc
  have Ksbc := Lib.hid (CW3.call (w := w) (x := x) (y := y) (z := z) hsbc); clear hsbc
  have HIn := Lib.hid hIn; clear hIn
  have HIs := Lib.hid hIs; clear hIs
  have HMn := Lib.hid hMn; clear hMn
  have HMs := Lib.hid hMs; clear hMs
  have HZn := Lib.hid hZn; clear hZn
  have HZs := Lib.hid hZs; clear hZs
  have HE := Lib.hid hE; clear hE
  have HBn := Lib.hid hBn; clear hBn
  have HBs := Lib.hid hBs; clear hBs
  have Hlv := Lib.hid hlv; clear hlv
  go_enter Tryd.func8, Tryd.ntmps8
  go_upto_region 1 with (fail)
  refine wp_region_quiet (C := (CW3 w x y z)) (by kernel_rfl) (by kernel_rfl) ⟨Below.drew (by go_grown), (heap3 _ _ _ _).1, (heap3 _ _ _ _).2.1, (heap3 _ _ _ _).2.2⟩ ?_
  with_reducible refine q_load 24 (.tmp 3) (.pointer (some ⟨w.heap.size, 0, none⟩)) (wv x) rfl (by kernel_rfl) (by kernel_rfl) L1.out ?_
  with_reducible refine q_load 24 (.tmp 4) (.pointer (some ⟨w.heap.size + 1, 0, none⟩)) (wv y) rfl (by kernel_rfl) (by kernel_rfl) L2.out ?_
  with_reducible refine q_call 22 #[wv x, wv y] (.int .i64 n) (by kernel_rfl) (fun _ => by kernel_rfl) Kcab.out ?_
  with_reducible refine q_load 24 (.tmp 3) (.pointer (some ⟨w.heap.size, 0, none⟩)) (wv x) rfl (by kernel_rfl) (by kernel_rfl) L1.out ?_
  with_reducible refine q_load 24 (.tmp 4) (.pointer (some ⟨w.heap.size + 1, 0, none⟩)) (wv y) rfl (by kernel_rfl) (by kernel_rfl) L2.out ?_
  with_reducible refine q_call 47 #[wv x, wv y] (.int .i64 s) (by kernel_rfl) (fun _ => by kernel_rfl) Ksab.out ?_
  with_reducible refine q_val (.int .i64 n) (by kernel_rfl) (fun _ _ => by kernel_rfl) ?_
  with_reducible refine q_val (.int .i64 s) (by kernel_rfl) (fun _ _ => by kernel_rfl) ?_
  with_reducible refine wpQuiet_nil ?_
  intro wx hC
  generalize hA : Act.put _ _ _ = A
  have hF : A = ({ tmps := #[.agg (pw x), .agg (pw y), .agg (pw z), .pointer (some ⟨w.heap.size, 0, none⟩), .pointer (some ⟨w.heap.size + 1, 0, none⟩), .pointer (some ⟨w.heap.size + 1 + 1, 0, none⟩), .bool false, .int .i64 n, .int .i64 s, wv x, wv y, .int .i64 n, wv x, wv y, .int .i64 s, undef, undef, undef, undef, undef, undef, undef, undef, undef, undef, undef, undef, undef, undef, undef, undef, undef, undef, undef, undef, undef, undef, undef, undef, undef, undef, undef, undef, undef, undef, undef, undef, undef, undef, undef, undef, undef, undef, undef, undef, undef, undef, undef, undef, undef, undef, undef, undef, undef, undef, undef, undef, undef, undef, undef, undef, undef, undef, undef, undef, undef, undef, undef, undef, undef, undef, undef, undef, undef, undef, undef], defers := [] } : Act) := by subst hA; kernel_rfl
  clear hA
  subst hF
  go_upto_region 2 with (fail)
  refine q_region (CW3 w x y z) hC ?_
  clear hC
  with_reducible refine q_val (.int .i64 n) (by kernel_rfl) (fun _ _ => by kernel_rfl) ?_
  with_reducible refine q_load 24 (.tmp 3) (.pointer (some ⟨w.heap.size, 0, none⟩)) (wv x) rfl (by kernel_rfl) (by kernel_rfl) L1.out ?_
  with_reducible refine q_load 24 (.tmp 4) (.pointer (some ⟨w.heap.size + 1, 0, none⟩)) (wv y) rfl (by kernel_rfl) (by kernel_rfl) L2.out ?_
  with_reducible refine q_call 48 #[wv x, wv y] (.int .i64 n) (by kernel_rfl) (fun _ => by kernel_rfl) Krab.out ?_
  with_reducible refine q_bin .neq 3 _ _ 3 (.int .i64 n) (.int .i64 n) (.bool false) rfl (by kernel_rfl) (by kernel_rfl) (by kernel_rfl) (ig _ _ _ _ _) (in_same _) ?_
  with_reducible refine q_val (.bool false) (by kernel_rfl) (fun _ _ => by kernel_rfl) ?_
  with_reducible refine q_val (.int .i64 s) (by kernel_rfl) (fun _ _ => by kernel_rfl) ?_
  with_reducible refine q_load 24 (.tmp 3) (.pointer (some ⟨w.heap.size, 0, none⟩)) (wv x) rfl (by kernel_rfl) (by kernel_rfl) L1.out ?_
  with_reducible refine q_load 24 (.tmp 4) (.pointer (some ⟨w.heap.size + 1, 0, none⟩)) (wv y) rfl (by kernel_rfl) (by kernel_rfl) L2.out ?_
  with_reducible refine q_call 49 #[wv x, wv y] (.int .i64 s) (by kernel_rfl) (fun _ => by kernel_rfl) Ktab.out ?_
  with_reducible refine q_bin .neq 3 _ _ 3 (.int .i64 s) (.int .i64 s) (.bool false) rfl (by kernel_rfl) (by kernel_rfl) (by kernel_rfl) (ig _ _ _ _ _) (in_same _) ?_
  with_reducible refine q_val (.bool false) (by kernel_rfl) (fun _ _ => by kernel_rfl) ?_
  with_reducible refine q_val (.bool false) (by kernel_rfl) (fun _ _ => by kernel_rfl) ?_
  with_reducible refine q_load 24 (.tmp 4) (.pointer (some ⟨w.heap.size + 1, 0, none⟩)) (wv y) rfl (by kernel_rfl) (by kernel_rfl) L2.out ?_
  with_reducible refine q_load 24 (.tmp 3) (.pointer (some ⟨w.heap.size, 0, none⟩)) (wv x) rfl (by kernel_rfl) (by kernel_rfl) L1.out ?_
  with_reducible refine q_call 22 #[wv y, wv x] (.int .i64 n') (by kernel_rfl) (fun _ => by kernel_rfl) Kcba.out ?_
  with_reducible refine q_val (.int .i64 n) (by kernel_rfl) (fun _ _ => by kernel_rfl) ?_
  with_reducible refine q_un .neg 3 _ (.int .i64 n) (.int .i64 n') rfl (by kernel_rfl) (by kernel_rfl) (un_neg _ _ HIn.out HMn.out) ?_
  with_reducible refine q_bin .neq 3 _ _ 3 (.int .i64 n') (.int .i64 n') (.bool false) rfl (by kernel_rfl) (by kernel_rfl) (by kernel_rfl) (ig _ _ _ _ _) (in_same _) ?_
  with_reducible refine q_val (.bool false) (by kernel_rfl) (fun _ _ => by kernel_rfl) ?_
  with_reducible refine q_val (.bool false) (by kernel_rfl) (fun _ _ => by kernel_rfl) ?_
  with_reducible refine q_load 24 (.tmp 4) (.pointer (some ⟨w.heap.size + 1, 0, none⟩)) (wv y) rfl (by kernel_rfl) (by kernel_rfl) L2.out ?_
  with_reducible refine q_load 24 (.tmp 3) (.pointer (some ⟨w.heap.size, 0, none⟩)) (wv x) rfl (by kernel_rfl) (by kernel_rfl) L1.out ?_
  with_reducible refine q_call 47 #[wv y, wv x] (.int .i64 s') (by kernel_rfl) (fun _ => by kernel_rfl) Ksba.out ?_
  with_reducible refine q_val (.int .i64 s) (by kernel_rfl) (fun _ _ => by kernel_rfl) ?_
  with_reducible refine q_un .neg 3 _ (.int .i64 s) (.int .i64 s') rfl (by kernel_rfl) (by kernel_rfl) (un_neg _ _ HIs.out HMs.out) ?_
  with_reducible refine q_bin .neq 3 _ _ 3 (.int .i64 s') (.int .i64 s') (.bool false) rfl (by kernel_rfl) (by kernel_rfl) (by kernel_rfl) (ig _ _ _ _ _) (in_same _) ?_
  with_reducible refine q_val (.bool false) (by kernel_rfl) (fun _ _ => by kernel_rfl) ?_
  with_reducible refine q_val (.bool false) (by kernel_rfl) (fun _ _ => by kernel_rfl) ?_
  with_reducible refine q_val (.int .i64 n) (by kernel_rfl) (fun _ _ => by kernel_rfl) ?_
  with_reducible refine q_bin .eql 3 _ _ 3 (.int .i64 n) (.int .i64 0) (.bool e) rfl (by kernel_rfl) (by kernel_rfl) (by kernel_rfl) (ig _ _ _ _ _) (ie_of _ _ _ HZn.out) ?_
  with_reducible refine q_load 24 (.tmp 3) (.pointer (some ⟨w.heap.size, 0, none⟩)) (wv x) rfl (by kernel_rfl) (by kernel_rfl) L1.out ?_
  with_reducible refine q_load 24 (.tmp 4) (.pointer (some ⟨w.heap.size + 1, 0, none⟩)) (wv y) rfl (by kernel_rfl) (by kernel_rfl) L2.out ?_
  with_reducible refine q_bin .eql 24 _ _ 24 (wv x) (wv y) (.bool e) rfl (by kernel_rfl) (by kernel_rfl) (by kernel_rfl) (eqgx _ _ _ _) HE.out ?_
  with_reducible refine q_bin .neq 4 _ _ 4 (.bool e) (.bool e) (.bool false) rfl (by kernel_rfl) (by kernel_rfl) (by kernel_rfl) (bg _ _ _ _) (bn_same _) ?_
  with_reducible refine q_val (.bool false) (by kernel_rfl) (fun _ _ => by kernel_rfl) ?_
  with_reducible refine q_val (.bool false) (by kernel_rfl) (fun _ _ => by kernel_rfl) ?_
  with_reducible refine q_val (.int .i64 s) (by kernel_rfl) (fun _ _ => by kernel_rfl) ?_
  with_reducible refine q_bin .eql 3 _ _ 3 (.int .i64 s) (.int .i64 0) (.bool e) rfl (by kernel_rfl) (by kernel_rfl) (by kernel_rfl) (ig _ _ _ _ _) (ie_of _ _ _ HZs.out) ?_
  with_reducible refine q_load 24 (.tmp 3) (.pointer (some ⟨w.heap.size, 0, none⟩)) (wv x) rfl (by kernel_rfl) (by kernel_rfl) L1.out ?_
  with_reducible refine q_load 24 (.tmp 4) (.pointer (some ⟨w.heap.size + 1, 0, none⟩)) (wv y) rfl (by kernel_rfl) (by kernel_rfl) L2.out ?_
  with_reducible refine q_bin .eql 24 _ _ 24 (wv x) (wv y) (.bool e) rfl (by kernel_rfl) (by kernel_rfl) (by kernel_rfl) (eqgx _ _ _ _) HE.out ?_
  with_reducible refine q_bin .neq 4 _ _ 4 (.bool e) (.bool e) (.bool false) rfl (by kernel_rfl) (by kernel_rfl) (by kernel_rfl) (bg _ _ _ _) (bn_same _) ?_
  with_reducible refine q_val (.bool false) (by kernel_rfl) (fun _ _ => by kernel_rfl) ?_
  with_reducible refine wpQuiet_nil ?_
  intro wx hC
  generalize hA : Act.put _ _ _ = A
  have hF : A = ({ tmps := #[.agg (pw x), .agg (pw y), .agg (pw z), .pointer (some ⟨w.heap.size, 0, none⟩), .pointer (some ⟨w.heap.size + 1, 0, none⟩), .pointer (some ⟨w.heap.size + 1 + 1, 0, none⟩), .bool false, .int .i64 n, .int .i64 s, wv x, wv y, .int .i64 n, wv x, wv y, .int .i64 s, .int .i64 n, wv x, wv y, .int .i64 n, .bool false, .bool false, .int .i64 s, wv x, wv y, .int .i64 s, .bool false, .bool false, .bool false, wv y, wv x, .int .i64 n', .int .i64 n, .int .i64 n', .bool false, .bool false, .bool false, wv y, wv x, .int .i64 s', .int .i64 s, .int .i64 s', .bool false, .bool false, .bool false, .int .i64 n, .bool e, wv x, wv y, .bool e, .bool false, .bool false, .bool false, .int .i64 s, .bool e, wv x, wv y, .bool e, .bool false, .bool false, undef, undef, undef, undef, undef, undef, undef, undef, undef, undef, undef, undef, undef, undef, undef, undef, undef, undef, undef, undef, undef, undef, undef, undef, undef, undef, undef], defers := [] } : Act) := by subst hA; kernel_rfl
  clear hA
  subst hF
  go_upto_region 4 with (fail)
  refine q_region (CW3 w x y z) hC ?_
  clear hC
  with_reducible refine q_load 24 (.tmp 4) (.pointer (some ⟨w.heap.size + 1, 0, none⟩)) (wv y) rfl (by kernel_rfl) (by kernel_rfl) L2.out ?_
  with_reducible refine q_load 24 (.tmp 5) (.pointer (some ⟨w.heap.size + 1 + 1, 0, none⟩)) (wv z) rfl (by kernel_rfl) (by kernel_rfl) L3.out ?_
  with_reducible refine q_call 22 #[wv y, wv z] (.int .i64 nb) (by kernel_rfl) (fun _ => by kernel_rfl) Kcbc.out ?_
  with_reducible refine q_val (.int .i64 n) (by kernel_rfl) (fun _ _ => by kernel_rfl) ?_
  with_reducible refine q_bin .eql 3 _ _ 3 (.int .i64 nb) (.int .i64 n) (.bool false) rfl (by kernel_rfl) (by kernel_rfl) (by kernel_rfl) (ig _ _ _ _ _) (ie_of _ _ _ HBn.out) ?_
  with_reducible refine q_val (.bool false) (by kernel_rfl) (fun _ _ => by kernel_rfl) ?_
  with_reducible refine q_skip (by kernel_rfl) ?_
  with_reducible refine q_skip (by kernel_rfl) ?_
  with_reducible refine q_skip (by kernel_rfl) ?_
  with_reducible refine q_skip (by kernel_rfl) ?_
  with_reducible refine q_skip (by kernel_rfl) ?_
  with_reducible refine q_val (.bool false) (by kernel_rfl) (fun _ _ => by kernel_rfl) ?_
  with_reducible refine q_val (.bool false) (by kernel_rfl) (fun _ _ => by kernel_rfl) ?_
  with_reducible refine q_load 24 (.tmp 4) (.pointer (some ⟨w.heap.size + 1, 0, none⟩)) (wv y) rfl (by kernel_rfl) (by kernel_rfl) L2.out ?_
  with_reducible refine q_load 24 (.tmp 5) (.pointer (some ⟨w.heap.size + 1 + 1, 0, none⟩)) (wv z) rfl (by kernel_rfl) (by kernel_rfl) L3.out ?_
  with_reducible refine q_call 47 #[wv y, wv z] (.int .i64 sb) (by kernel_rfl) (fun _ => by kernel_rfl) Ksbc.out ?_
  with_reducible refine q_val (.int .i64 s) (by kernel_rfl) (fun _ _ => by kernel_rfl) ?_
  with_reducible refine q_bin .eql 3 _ _ 3 (.int .i64 sb) (.int .i64 s) (.bool false) rfl (by kernel_rfl) (by kernel_rfl) (by kernel_rfl) (ig _ _ _ _ _) (ie_of _ _ _ HBs.out) ?_
  with_reducible refine q_val (.bool false) (by kernel_rfl) (fun _ _ => by kernel_rfl) ?_
  with_reducible refine q_skip (by kernel_rfl) ?_
  with_reducible refine q_skip (by kernel_rfl) ?_
  with_reducible refine q_skip (by kernel_rfl) ?_
  with_reducible refine q_skip (by kernel_rfl) ?_
  with_reducible refine q_skip (by kernel_rfl) ?_
  with_reducible refine q_val (.bool false) (by kernel_rfl) (fun _ _ => by kernel_rfl) ?_
  with_reducible refine q_val (.bool false) (by kernel_rfl) (fun _ _ => by kernel_rfl) ?_
  with_reducible refine wpQuiet_nil ?_
  intro wx hC
  generalize hA : Act.put _ _ _ = A
  have hF : A = ({ tmps := #[.agg (pw x), .agg (pw y), .agg (pw z), .pointer (some ⟨w.heap.size, 0, none⟩), .pointer (some ⟨w.heap.size + 1, 0, none⟩), .pointer (some ⟨w.heap.size + 1 + 1, 0, none⟩), .bool false, .int .i64 n, .int .i64 s, wv x, wv y, .int .i64 n, wv x, wv y, .int .i64 s, .int .i64 n, wv x, wv y, .int .i64 n, .bool false, .bool false, .int .i64 s, wv x, wv y, .int .i64 s, .bool false, .bool false, .bool false, wv y, wv x, .int .i64 n', .int .i64 n, .int .i64 n', .bool false, .bool false, .bool false, wv y, wv x, .int .i64 s', .int .i64 s, .int .i64 s', .bool false, .bool false, .bool false, .int .i64 n, .bool e, wv x, wv y, .bool e, .bool false, .bool false, .bool false, .int .i64 s, .bool e, wv x, wv y, .bool e, .bool false, .bool false, wv y, wv z, .int .i64 nb, .int .i64 n, .bool false, .bool false, undef, undef, undef, undef, undef, .bool false, .bool false, wv y, wv z, .int .i64 sb, .int .i64 s, .bool false, .bool false, undef, undef, undef, undef, undef, .bool false, .bool false, undef], defers := [] } : Act) := by subst hA; kernel_rfl
  clear hA
  subst hF
  have hB := hC.1
  clear hC
  go_wp2_with fail
  refine (Hlv.out _).mono ?_
  rintro e2 w2 ⟨rfl, hb⟩
  have hB2 : Below w.heap.size w w2 := hB.trans (hb.mono hB.size)
  clear hb hB
  go_wp2
  go_ret
  exact ⟨rfl, hB2⟩

theorem orders_any (x y z : Nat) (w : World) : Calls Tryd.prog 8 #[wv x, wv y, wv z] w fun e w' => e = .returned (.bool true) ∧ Below w.heap.size w w' := by
  have hn := ord_in (x % 115792089237316195423570985008687907853269984665640564039457584007913129639936) (y % 115792089237316195423570985008687907853269984665640564039457584007913129639936)
  have hs := ord_in ((x % 115792089237316195423570985008687907853269984665640564039457584007913129639936 + 57896044618658097711785492504343953926634992332820282019728792003956564819968) % 115792089237316195423570985008687907853269984665640564039457584007913129639936) ((y % 115792089237316195423570985008687907853269984665640564039457584007913129639936 + 57896044618658097711785492504343953926634992332820282019728792003956564819968) % 115792089237316195423570985008687907853269984665640564039457584007913129639936)
  have hz1 := ord_zero (x % 115792089237316195423570985008687907853269984665640564039457584007913129639936) (y % 115792089237316195423570985008687907853269984665640564039457584007913129639936)
  have hz2 : sord x y = 0 ↔ x % 115792089237316195423570985008687907853269984665640564039457584007913129639936 = y % 115792089237316195423570985008687907853269984665640564039457584007913129639936 := (ord_zero _ _).trans ⟨fun h => by omega, fun h => by rw [h]⟩
  have ht1 := ord_trans (x % 115792089237316195423570985008687907853269984665640564039457584007913129639936) (y % 115792089237316195423570985008687907853269984665640564039457584007913129639936) (z % 115792089237316195423570985008687907853269984665640564039457584007913129639936)
  have ht2 : sord y z = sord x y → sord x z = sord x y := ord_trans _ _ _
  have hE := eqbx x y
  by_cases c1 : ord (y % 115792089237316195423570985008687907853269984665640564039457584007913129639936) (z % 115792089237316195423570985008687907853269984665640564039457584007913129639936) = ord (x % 115792089237316195423570985008687907853269984665640564039457584007913129639936) (y % 115792089237316195423570985008687907853269984665640564039457584007913129639936)
  · by_cases c2 : sord y z = sord x y
    · exact orders_true_true x y z _ _ _ _ _ _ _ w (cmp_any x y) (scmp_any x y) (cmp_ref x y) (scmp_ref x y) (cmp_any y x) (scmp_any y x) (cmp_any y z) (scmp_any y z) (fun w => by have h := cmp_any x z w; rw [ht1 c1] at h; exact h) (fun w => by have h := scmp_any x z w; rw [ht2 c2] at h; exact h) hn hs (ord_swap _ _) (ord_swap _ _) (bdec hz1) (bdec hz2) hE (decide_eq_true c1) (decide_eq_true c2) lives_any
    · exact orders_true_false x y z _ _ _ _ _ _ _ w (cmp_any x y) (scmp_any x y) (cmp_ref x y) (scmp_ref x y) (cmp_any y x) (scmp_any y x) (cmp_any y z) (scmp_any y z) (fun w => by have h := cmp_any x z w; rw [ht1 c1] at h; exact h) hn hs (ord_swap _ _) (ord_swap _ _) (bdec hz1) (bdec hz2) hE (decide_eq_true c1) (decide_eq_false c2) lives_any
  · by_cases c2 : sord y z = sord x y
    · exact orders_false_true x y z _ _ _ _ _ _ _ w (cmp_any x y) (scmp_any x y) (cmp_ref x y) (scmp_ref x y) (cmp_any y x) (scmp_any y x) (cmp_any y z) (scmp_any y z) (fun w => by have h := scmp_any x z w; rw [ht2 c2] at h; exact h) hn hs (ord_swap _ _) (ord_swap _ _) (bdec hz1) (bdec hz2) hE (decide_eq_false c1) (decide_eq_true c2) lives_any
    · exact orders_false_false x y z _ _ _ _ _ _ _ w (cmp_any x y) (scmp_any x y) (cmp_ref x y) (scmp_ref x y) (cmp_any y x) (scmp_any y x) (cmp_any y z) (scmp_any y z) hn hs (ord_swap _ _) (ord_swap _ _) (bdec hz1) (bdec hz2) hE (decide_eq_false c1) (decide_eq_false c2) lives_any
end Go.Proofs.YthfadinocadhaaaDoor

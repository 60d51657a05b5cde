/- What word.Bytes comes to, called with any word in any world. (With it, merged: DivNum · Q · Cells · DivRows · DivSl · DivAll · DivSmall · DivAny · Inv · Bytes.) -/
import Derived.Test.YthfadinocadhaaaDoorM2
import Derived.Deep.Quiet
import Derived.Deep.QuietTactic
import Derived.WalkKit
import Derived.Test.YthfadinocadhaaaDoorProg
import Derived.Test.YthfadinocadhaaaDoorM1
import Derived.WalkSpells
import Derived.WalkLawsBesides
import Derived.LoopN
import Derived.Handy
import Derived.Outline
import Derived.RegionTactic
import Derived.BigRegion
import Derived.Lib.Hide
import Derived.IntWalk
import Derived.Still
import Derived.Laws.Rows
import Derived.Laws.Tables
import Derived.Laws.CopyOwn
namespace Go.Proofs.YthfadinocadhaaaDoor
open Go.RowKit

theorem val_split (f : Nat → Nat) (i : Nat) : ∀ k, val f (i + k) = val f i + 18446744073709551616 ^ i * val (fun j => f (i + j)) k
  | 0 => by simp [val]
  | k + 1 => by
    show val f (i + k) + 18446744073709551616 ^ (i + k) * f (i + k) = val f i + 18446744073709551616 ^ i * (val (fun j => f (i + j)) k + 18446744073709551616 ^ k * f (i + k))
    rw [val_split f i k, Nat.mul_add, ← Nat.mul_assoc, ← Nat.pow_add, Nat.add_assoc]
theorem val_mono (f : Nat → Nat) (i k : Nat) : val f i ≤ val f (i + k) := by rw [val_split]; omega
theorem val_zero {f : Nat → Nat} : ∀ k, (∀ j, j < k → f j = 0) → val f k = 0
  | 0, _ => rfl
  | k + 1, h => by rw [val, val_zero k (fun j hj => h j (by omega)), h k (by omega)]; rfl
theorem val_top {f : Nat → Nat} {k N : Nat} (hk : k ≤ N) (h : ∀ j, k ≤ j → j < N → f j = 0) : val f N = val f k := by
  obtain ⟨e, rfl⟩ : ∃ e, N = k + e := ⟨N - k, by omega⟩
  rw [val_split, val_zero e (fun j hj => h (k + j) (by omega) (by omega))]
  rfl
theorem val_ztop {f : Nat → Nat} {k N : Nat} (h : val f N < 18446744073709551616 ^ k) (j : Nat) (hk : k ≤ j) (hj : j < N) : f j = 0 := by
  obtain ⟨e, rfl⟩ : ∃ e, N = j + 1 + e := ⟨N - (j + 1), by omega⟩
  have h1 := val_mono f (j + 1) e
  have h2 : 18446744073709551616 ^ j * f j ≤ val f (j + 1) := by rw [val]; omega
  have h3 : 18446744073709551616 ^ k ≤ 18446744073709551616 ^ j := Nat.pow_le_pow_right (by omega) hk
  rcases Nat.eq_zero_or_pos (f j) with h4 | h4
  · exact h4
  · have h5 : 18446744073709551616 ^ j * 1 ≤ 18446744073709551616 ^ j * f j := Nat.mul_le_mul_left _ h4
    generalize 18446744073709551616 ^ j * f j = y at *
    generalize 18446744073709551616 ^ j = z at *
    generalize 18446744073709551616 ^ k = u at *
    omega
theorem val_set (f : Nat → Nat) (i x : Nat) : ∀ N, i < N → val (fun j => if j = i then x else f j) N + 18446744073709551616 ^ i * f i = val f N + 18446744073709551616 ^ i * x := by
  intro N hN
  obtain ⟨e, rfl⟩ : ∃ e, N = i + 1 + e := ⟨N - (i + 1), by omega⟩
  rw [val_split, val_split f, val, val, if_pos rfl, val_congr (f := fun j => if j = i then x else f j) (g := f) (n := i) (fun j hj => if_neg (by omega)),
    val_congr (f := fun j => if i + 1 + j = i then x else f (i + 1 + j)) (g := fun j => f (i + 1 + j)) (n := e) (fun j hj => if_neg (by omega))]
  omega
theorem np_spec (f : Nat → Nat) : ∀ n, np f n ≤ n ∧ (∀ j, np f n ≤ j → j < n → f j = 0) ∧ (0 < np f n → f (np f n - 1) ≠ 0)
  | 0 => ⟨Nat.le_refl _, fun j _ h => by omega, fun h => by simp [np] at h⟩
  | n + 1 => by
    obtain ⟨h1, h2, h3⟩ := np_spec f n
    unfold np
    by_cases e : f n = 0
    · rw [if_pos e]
      refine ⟨by omega, fun j hj hn => ?_, h3⟩
      by_cases q : j = n
      · rw [q]; exact e
      · exact h2 j hj (by omega)
    · rw [if_neg e]
      exact ⟨Nat.le_refl _, fun j hj hn => by omega, fun _ => e⟩
/-- What a round takes of the rest. -/
theorem div_take {cur : Nat → Nat} {D i n : Nat} (hD : D ≤ 18446744073709551616 ^ n) (hin : i + n + 1 ≤ 9) (hlt : val cur 9 < D * 18446744073709551616 ^ (i + 1)) :
    (∀ j, i + (n + 1) ≤ j → j < 9 → cur j = 0) ∧ val cur 9 = val cur i + 18446744073709551616 ^ i * val (fun j => cur (i + j)) (n + 1) ∧ val (fun j => cur (i + j)) (n + 1) < 18446744073709551616 * D := by
  have h1 : val cur 9 < 18446744073709551616 ^ (i + (n + 1)) := by
    refine Nat.lt_of_lt_of_le hlt ?_
    have := Nat.mul_le_mul_right (18446744073709551616 ^ (i + 1)) hD
    rwa [← Nat.pow_add, show n + (i + 1) = i + (n + 1) by omega] at this
  have h2 : ∀ j, i + (n + 1) ≤ j → j < 9 → cur j = 0 := fun j => val_ztop h1 j
  have h3 : val cur 9 = val cur i + 18446744073709551616 ^ i * val (fun j => cur (i + j)) (n + 1) := by
    rw [val_top (k := i + (n + 1)) (by omega) h2, val_split]
  refine ⟨h2, h3, ?_⟩
  rw [h3, Nat.pow_succ] at hlt
  have hp : 0 < 18446744073709551616 ^ i := Nat.pow_pos (by omega)
  generalize val (fun j => cur (i + j)) (n + 1) = r at *
  generalize 18446744073709551616 ^ i = p at *
  generalize 18446744073709551616 = P at *
  refine Nat.lt_of_mul_lt_mul_left (a := p) (Nat.lt_of_le_of_lt ?_ (Nat.lt_of_lt_of_eq hlt (by rw [Nat.mul_comm p P, ← Nat.mul_assoc, Nat.mul_comm D P, Nat.mul_comm])))
  omega
/-- The rest behind a round, the quotient behind a round. -/
def curN (cur ns : Nat → Nat) (i n : Nat) : Nat → Nat := fun j => if i ≤ j ∧ j < i + (n + 1) then ns (j - i) else cur j
def quoN (q : Nat → Nat) (i part : Nat) : Nat → Nat := fun j => if j = i then part else q j
theorem curN_val {cur ns : Nat → Nat} {i n : Nat} (hin : i + n + 1 ≤ 9) (h0 : ∀ j, i + (n + 1) ≤ j → j < 9 → cur j = 0) : val (curN cur ns i n) 9 = val cur i + 18446744073709551616 ^ i * val ns (n + 1) := by
  rw [val_top (f := curN cur ns i n) (k := i + (n + 1)) (by omega) (fun j h1 h2 => by unfold curN; rw [if_neg (by omega)]; exact h0 j h1 h2), val_split,
    val_congr (f := curN cur ns i n) (g := cur) (n := i) (fun j hj => by unfold curN; rw [if_neg (by omega)]),
    val_congr (f := fun j => curN cur ns i n (i + j)) (g := ns) (n := n + 1) (fun j hj => by unfold curN; rw [if_pos (by omega), show i + j - i = j by omega])]
theorem div_arith {X q8 q8' p part r m D c R0 : Nat} (h : q8 * D + (c + p * r) = R0) (hr : r = D * part + m) (hq : q8' = q8 + p * part) (hX : X = c + p * m) : q8' * D + X = R0 := by
  subst hq hX hr
  rw [← h]; grind
theorem div_round {cur q ns : Nat → Nat} {D R0 i n part : Nat} (hc : ∀ j, j < 9 → cur j < 18446744073709551616) (hD0 : 0 < D) (hD : D ≤ 18446744073709551616 ^ n) (hin : i + n + 1 ≤ 9) (hi : i < 8) (hlt : val cur 9 < D * 18446744073709551616 ^ (i + 1))
    (inv : val q 8 * D + val cur 9 = R0) (hq : q i = 0) (hp : part = val (fun j => cur (i + j)) (n + 1) / D) (hns : val ns (n + 1) = val (fun j => cur (i + j)) (n + 1) % D) :
    val (quoN q i part) 8 * D + val (curN cur ns i n) 9 = R0 ∧ val (curN cur ns i n) 9 < D * 18446744073709551616 ^ i ∧ part < 18446744073709551616 := by
  obtain ⟨h0, h1, h2⟩ := div_take hD hin hlt
  have h3 := curN_val (ns := ns) hin h0
  have h4 := val_set q i part 8 hi
  rw [hq, Nat.mul_zero, Nat.add_zero] at h4
  have h5 := val_lt (f := cur) (n := i) (fun j hj => hc j (by omega))
  rw [h1] at inv
  refine ⟨div_arith inv (r := val (fun j => cur (i + j)) (n + 1)) (by rw [hp]; exact (Nat.div_add_mod _ _).symm) h4 (by rw [h3, hns]), ?_, ?_⟩
  · rw [h3, hns]
    have h6 := Nat.mod_lt (val (fun j => cur (i + j)) (n + 1)) hD0
    generalize val (fun j => cur (i + j)) (n + 1) % D = r at *
    have h7 : 18446744073709551616 ^ i * (r + 1) ≤ 18446744073709551616 ^ i * D := Nat.mul_le_mul_left _ h6
    rw [Nat.mul_add, Nat.mul_one] at h7
    rw [Nat.mul_comm D]
    generalize 18446744073709551616 ^ i = p at *
    generalize p * D = y at *
    generalize p * r = z at *
    omega
  · rw [hp, Nat.div_lt_iff_lt_mul hD0]; exact h2
theorem div_end {A B D q V s : Nat} (hD : D = B * 2 ^ s) (inv : q * D + V = A * 2 ^ s) (h : V < D) : q = A / B ∧ V / 2 ^ s = A % B := by
  have hp := Nat.two_pow_pos s
  have e1 : q = A * 2 ^ s / D := by
    rw [← inv, Nat.add_comm, Nat.mul_comm, Nat.add_mul_div_left _ _ (by omega), Nat.div_eq_of_lt h, Nat.zero_add]
  have e2 : V = A * 2 ^ s % D := by
    rw [← inv, Nat.add_comm, Nat.mul_comm, Nat.add_mul_mod_self_left, Nat.mod_eq_of_lt h]
  rw [hD, Nat.mul_div_mul_right _ _ hp] at e1
  rw [hD, Nat.mul_mod_mul_right] at e2
  exact ⟨e1, by rw [e2, Nat.mul_div_cancel _ hp]⟩
/-- As the rounds begin. -/
theorem div_start {a b : Nat → Nat} {m n s c : Nat} (ha : ∀ j, j < m → a j < 18446744073709551616) (hb : b (n - 1) ≠ 0) (hn : 0 < n) (hc : m + 1 ≤ c + n) : val a m * 2 ^ s < val b n * 2 ^ s * 18446744073709551616 ^ c := by
  have h1 := val_lt ha
  have h2 : 18446744073709551616 ^ (n - 1) * b (n - 1) ≤ val b n := by
    have := val_mono b (n - 1 + 1) 0
    rw [show n = n - 1 + 1 by omega, val, Nat.add_sub_cancel]; omega
  have h3 : 18446744073709551616 ^ (n - 1) * 1 ≤ 18446744073709551616 ^ (n - 1) * b (n - 1) := Nat.mul_le_mul_left _ (Nat.pos_of_ne_zero hb)
  have h4 : 18446744073709551616 ^ m ≤ 18446744073709551616 ^ (n - 1) * 18446744073709551616 ^ c := by
    rw [← Nat.pow_add]; exact Nat.pow_le_pow_right (by omega) (by omega)
  have h5 : 18446744073709551616 ^ (n - 1) * 18446744073709551616 ^ c ≤ val b n * 18446744073709551616 ^ c := Nat.mul_le_mul_right _ (by omega)
  have h6 : val a m < val b n * 18446744073709551616 ^ c := Nat.lt_of_lt_of_le h1 (Nat.le_trans h4 h5)
  have hp := Nat.two_pow_pos s
  rw [Nat.mul_right_comm]
  exact Nat.mul_lt_mul_of_lt_of_le h6 (Nat.le_refl _) hp
end Go.Proofs.YthfadinocadhaaaDoor
namespace Go.Proofs.YthfadinocadhaaaDoor
open Go.RowKit

section
variable {P : Program} {ops : Array Oper} {C : World → Prop} {Q : Act → Prop} {a : Act} {o : Oper} {rest : List Oper}

/-- An operation that is passed over. -/
theorem q_skip (hw : Region.wanted o (yielded ops a.tmps) = false) (h : wpQuiet P ops C Q rest (a.put o.dst undef)) : wpQuiet P ops C Q (o :: rest) a :=
  wpQuiet_step fun K hK => by rw [if_neg (by rw [hw]; exact Bool.false_ne_true)]; exact hK _ h

/-- An operation that is wanted: one value, in every world of the class. -/
theorem q_step (v : Value) (hw : Region.wanted o (yielded ops a.tmps) = true) (hv : ∀ w, C w → o.quietAt P a C w v) (h : wpQuiet P ops C Q rest (a.put o.dst v)) : wpQuiet P ops C Q (o :: rest) a :=
  wpQuiet_step fun K hK => by rw [if_pos hw]; exact ⟨v, hv, hK _ h⟩

/-- One that leaves the world as it is. -/
theorem q_val (v : Value) (hw : Region.wanted o (yielded ops a.tmps) = true) (hv : ∀ w, C w → (execOp a.eval o).run P w = .ok (.value v) w) (h : wpQuiet P ops C Q rest (a.put o.dst v)) : wpQuiet P ops C Q (o :: rest) a :=
  q_step v hw (fun w hC => by unfold Oper.quietAt; rw [hv w hC]; exact ⟨rfl, rfl⟩) h

/-- A load. -/
theorem q_load (T : TypeId) (x : Operand) (p v : Value) (ho : o.op = .load T x) (hw : Region.wanted o (yielded ops a.tmps) = true) (hp : a.eval x = p)
    (hv : ∀ w, C w → (Instr.loadAt T p).run P w = .ok v w) (h : wpQuiet P ops C Q rest (a.put o.dst v)) : wpQuiet P ops C Q (o :: rest) a :=
  q_val v hw (fun w hC => by
    unfold execOp
    rw [ho]
    simp only [hp, Sem.run_bind, hv w hC, Result.andThen_ok, Sem.run_pure]) h

/-- A call. -/
theorem q_call (f : FuncId) (args : Array Value) (v : Value) (hw : Region.wanted o (yielded ops a.tmps) = true) (he : ∀ w, (execOp a.eval o).run P w = .ok (.enter f args) w)
    (hv : ∀ w, C w → Calls P f args w fun e w' => e = .returned v ∧ C w') (h : wpQuiet P ops C Q rest (a.put o.dst v)) : wpQuiet P ops C Q (o :: rest) a :=
  q_step v hw (fun w hC => by unfold Oper.quietAt; rw [he w]; exact ⟨rfl, hv w hC⟩) h

/-- A comparison. -/
theorem q_bin (op : BinOp) (T : TypeId) (x y : Operand) (t : TypeId) (u v r : Value) (ho : o.op = .binOp op T x y t) (hw : Region.wanted o (yielded ops a.tmps) = true) (hx : a.eval x = u) (hy : a.eval y = v)
    (hg : ∀ w, (eqGuard op T x y u v).run P w = .ok () w) (hb : ∀ w, (binOp op T u v).run P w = .ok r w) (h : wpQuiet P ops C Q rest (a.put o.dst r)) : wpQuiet P ops C Q (o :: rest) a :=
  q_val r hw (fun w hC => by
    unfold execOp
    rw [ho]
    simp only [hx, hy, Sem.run_bind, hg w, hb w, Result.andThen_ok, Sem.run_pure]) h
end
end Go.Proofs.YthfadinocadhaaaDoor
namespace Go.Proofs.YthfadinocadhaaaDoor
open Go.RowKit

/-- Block B is a word with these parts. -/
def Holds4 (B : Nat) (v0 v1 v2 v3 : Value) (wx : World) : Prop := wx.cell? ⟨B, 0, none⟩ = some v0 ∧ wx.cell? ⟨B, 1, none⟩ = some v1 ∧ wx.cell? ⟨B, 2, none⟩ = some v2 ∧ wx.cell? ⟨B, 3, none⟩ = some v3
theorem Holds4.below {B : Nat} {v0 v1 v2 v3 : Value} {wx w' : World} (h : Holds4 B v0 v1 v2 v3 wx) (hb : Below wx.heap.size wx w') (hB : B < wx.heap.size) : Holds4 B v0 v1 v2 v3 w' :=
  ⟨(hb.cell hB).trans h.1, (hb.cell hB).trans h.2.1, (hb.cell hB).trans h.2.2.1, (hb.cell hB).trans h.2.2.2⟩

/-- The worlds of a law's last statement: nothing elder has turned; some blocks are the words that they were. -/
def ClG (w : World) (top : Nat) (Cs : World → Prop) (wx : World) : Prop := Below w.heap.size w wx ∧ top < wx.heap.size ∧ Cs wx
theorem ClG.drew {w wx : World} {top : Nat} {Cs : World → Prop} (hd : ∀ wx, Cs wx → Cs wx.drew) (h : ClG w top Cs wx) : ClG w top Cs wx.drew := ⟨h.1.drew, h.2.1, hd _ h.2.2⟩
theorem ClG.below {w wx w' : World} {top : Nat} {Cs : World → Prop} (hk : ∀ wx w', top < wx.heap.size → Below wx.heap.size wx w' → Cs wx → Cs w') (h : ClG w top Cs wx) (hb : Below wx.heap.size wx w') : ClG w top Cs w' :=
  ⟨h.1.trans (hb.mono h.1.size), Nat.lt_of_lt_of_le h.2.1 hb.size, hk _ _ h.2.1 hb h.2.2⟩

set_option maxHeartbeats 400000 in
/-- A whole word loaded. -/
theorem load4 (B : Nat) {v0 v1 v2 v3 : Value} {w : World} (h : Holds4 B v0 v1 v2 v3 w) : (Instr.loadAt 24 (.pointer (some ⟨B, 0, none⟩))).run Tryd.prog w = .ok (.agg #[v0, v1, v2, v3]) w := by
  obtain ⟨c0, c1, c2, c3⟩ := h
  go_simp
end Go.Proofs.YthfadinocadhaaaDoor
namespace Go.Proofs.YthfadinocadhaaaDoor
open Go.RowKit

/-- The divisor's block behind the fifth statement. -/
def CutE (w W : World) (h : Nat) (ds : Nat → Nat) (v : Value) (wx : World) : Prop :=
  ∃ D : Nat, v = .pointer (some ⟨D, 0, none⟩) ∧ h ≤ D ∧ D < wx.heap.size ∧ Below h W wx ∧ Below w.heap.size w wx ∧ Holds4 D (.int .u64 (ds 0 : Nat)) (.int .u64 (ds 1 : Nat)) (.int .u64 (ds 2 : Nat)) (.int .u64 (ds 3 : Nat)) wx
theorem cutE_mk {w W wx : World} {h D : Nat} {ds : Nat → Nat} (h1 : h ≤ D) (h2 : D < wx.heap.size) (h3 : Below h W wx) (h4 : Below w.heap.size w W) (h6 : w.heap.size ≤ h) (c0 : wx.cell? ⟨D, 0, none⟩ = some (.int .u64 (ds 0 : Nat))) (c1 : wx.cell? ⟨D, 1, none⟩ = some (.int .u64 (ds 1 : Nat))) (c2 : wx.cell? ⟨D, 2, none⟩ = some (.int .u64 (ds 2 : Nat))) (c3 : wx.cell? ⟨D, 3, none⟩ = some (.int .u64 (ds 3 : Nat))) : CutE w W h ds (.pointer (some ⟨D, 0, none⟩)) wx :=
  ⟨D, rfl, h1, h2, h3, h4.trans (h3.mono h6), c0, c1, c2, c3⟩

theorem upto4 {P : Nat → Prop} (h0 : P 0) (h1 : P 1) (h2 : P 2) (h3 : P 3) : ∀ j, j < 4 → P j := fun j hj => by
  rcases j with _ | _ | _ | _ | j
  · exact h0
  · exact h1
  · exact h2
  · exact h3
  · omega
theorem upto9 {P : Nat → Prop} (h0 : P 0) (h1 : P 1) (h2 : P 2) (h3 : P 3) (h4 : P 4) (h5 : P 5) (h6 : P 6) (h7 : P 7) (h8 : P 8) : ∀ j, j < 9 → P j := fun j hj => by
  rcases j with _ | _ | _ | _ | _ | _ | _ | _ | _ | j
  · exact h0
  · exact h1
  · exact h2
  · exact h3
  · exact h4
  · exact h5
  · exact h6
  · exact h7
  · exact h8
  · omega
theorem upto8 {P : Nat → Prop} (h0 : P 0) (h1 : P 1) (h2 : P 2) (h3 : P 3) (h4 : P 4) (h5 : P 5) (h6 : P 6) (h7 : P 7) : ∀ j, j < 8 → P j := fun j hj => by
  rcases j with _ | _ | _ | _ | _ | _ | _ | _ | j
  · exact h0
  · exact h1
  · exact h2
  · exact h3
  · exact h4
  · exact h5
  · exact h6
  · exact h7
  · omega

/-- The worlds between the rounds: the rest's block S, the quotient's block Q, the divisor's block D, the results'. -/
structure DivW (w : World) (S Q D z : Nat) (ds cur q : Nat → Nat) (wr : World) : Prop where
  below : Below w.heap.size w wr
  size : wr.heap.size = z
  r4 : Is wr (w.heap.size + 1 + 1) (.cells #[.int .u64 0, .int .u64 0, .int .u64 0, .int .u64 0, .int .u64 0, .int .u64 0, .int .u64 0, .int .u64 0] 58)
  r5 : Is wr (w.heap.size + 1 + 1 + 1) (.cells #[.int .u64 0, .int .u64 0, .int .u64 0, .int .u64 0] 24)
  rest : ∀ j, j < 9 → wr.cell? ⟨S, j, none⟩ = some (.int .u64 (cur j : Nat))
  restf : ∀ j, j < 9 → wr.frozen? ⟨S, j, none⟩ = false
  quo : ∀ j, j < 8 → wr.cell? ⟨Q, j, none⟩ = some (.int .u64 (q j : Nat))
  quof : ∀ j, j < 8 → wr.frozen? ⟨Q, j, none⟩ = false
  by_ : ∀ j, j < 4 → wr.cell? ⟨D, j, none⟩ = some (.int .u64 (ds j : Nat))
theorem DivW.drew {w wr : World} {S Q D z : Nat} {ds cur q : Nat → Nat} (h : DivW w S Q D z ds cur q wr) : DivW w S Q D z ds cur q wr.drew :=
  ⟨h.below.drew, h.size, h.r4, h.r5, h.rest, h.restf, h.quo, h.quof, h.by_⟩
/-- A round. -/
theorem DivW.step {w wr w3 : World} {S Q D z i n : Nat} {ds cur q ns : Nat → Nat} {part : Nat} (h : DivW w S Q D z ds cur q wr) (hH : Holds S i (n + 1) ns wr w3) (hin : i + n + 1 ≤ 9) (hi : i < 8)
    (hSQ : S ≠ Q) (hSD : D ≠ S) (hQD : D ≠ Q) (hS : w.heap.size + 1 + 1 + 1 < S) (hQ : w.heap.size + 1 + 1 + 1 < Q) :
    DivW w S Q D z ds (curN cur ns i n) (quoN q i part) (w3.setCell ⟨Q, i, none⟩ (.int .u64 (part : Nat))) := by
  obtain ⟨hb, hc⟩ := hH
  have hQc : w3.cell? ⟨Q, i, none⟩ = some (.int .u64 (q i : Nat)) := (hb.cell (p := ⟨Q, i, none⟩) (Ne.symm hSQ)).trans (h.quo i hi)
  refine ⟨(But.below h.below hb (by omega)).setCell (by show w.heap.size ≤ Q; omega) _, ?_, (h.r4.but hb (by omega)).set (p := ⟨Q, i, none⟩) (by show _ ≠ Q; omega) _, (h.r5.but hb (by omega)).set (p := ⟨Q, i, none⟩) (by show _ ≠ Q; omega) _, ?_, ?_, ?_, ?_, ?_⟩
  · rw [← h.size, ← hb.size]; simp
  · intro j hj
    rw [World.cell?_setCell_other _ _ _ _ (fun e => hSQ (congrArg Addr.block e).symm), hc j]
    unfold curN
    by_cases e : i ≤ j ∧ j < i + (n + 1)
    · rw [if_pos e, if_pos e]
    · rw [if_neg e, if_neg e]; exact h.rest j hj
  · intro j hj
    rw [World.frozen?_setCell, hb.frozen]; exact h.restf j hj
  · intro j hj
    unfold quoN
    by_cases e : j = i
    · subst e; rw [if_pos rfl, World.cell?_setCell_same _ _ _ hQc]
    · rw [if_neg e, World.cell?_setCell_other _ _ _ _ (fun h => e (congrArg Addr.off h).symm), hb.cell (p := ⟨Q, j, none⟩) (Ne.symm hSQ)]; exact h.quo j hj
  · intro j hj
    rw [World.frozen?_setCell, World.frozen?_of_block (w := wr) (a := ⟨Q, j, none⟩) (hb.block Q (Ne.symm hSQ))]; exact h.quof j hj
  · intro j hj
    rw [World.cell?_setCell_other _ _ _ _ (fun e => hQD (congrArg Addr.block e).symm), hb.cell (p := ⟨D, j, none⟩) hSD]; exact h.by_ j hj

/-- The worlds of the last statement. -/
structure ClQ (w : World) (S Q : Nat) (cur q : Nat → Nat) (wx : World) : Prop where
  below : Below w.heap.size w wx
  r4 : Is wx (w.heap.size + 1 + 1) (.cells #[.int .u64 0, .int .u64 0, .int .u64 0, .int .u64 0, .int .u64 0, .int .u64 0, .int .u64 0, .int .u64 0] 58)
  r5 : Is wx (w.heap.size + 1 + 1 + 1) (.cells #[.int .u64 0, .int .u64 0, .int .u64 0, .int .u64 0] 24)
  quo : ∀ j, j < 8 → wx.cell? ⟨Q, j, none⟩ = some (.int .u64 (q j : Nat))
  rest : ∀ j, j < 9 → wx.cell? ⟨S, j, none⟩ = some (.int .u64 (cur j : Nat))
  hQ : Q < wx.heap.size
  hS : S < wx.heap.size
theorem ClQ.grown {w wx w' : World} {S Q : Nat} {cur q : Nat → Nat} (h : ClQ w S Q cur q wx) (hb : Below wx.heap.size wx w') : ClQ w S Q cur q w' :=
  ⟨h.below.trans (hb.mono h.below.size), h.r4.below hb h.r4.lt, h.r5.below hb h.r5.lt, fun j hj => (hb.cell (p := ⟨Q, j, none⟩) h.hQ).trans (h.quo j hj), fun j hj => (hb.cell (p := ⟨S, j, none⟩) h.hS).trans (h.rest j hj), Nat.lt_of_lt_of_le h.hQ hb.size, Nat.lt_of_lt_of_le h.hS hb.size⟩
theorem ClQ.quos {w wx : World} {S Q : Nat} {cur q : Nat → Nat} (h : ClQ w S Q cur q wx) : wx.cell? ⟨Q, 0, none⟩ = some (.int .u64 (q 0 : Nat)) ∧ wx.cell? ⟨Q, 1, none⟩ = some (.int .u64 (q 1 : Nat)) ∧ wx.cell? ⟨Q, 2, none⟩ = some (.int .u64 (q 2 : Nat)) ∧ wx.cell? ⟨Q, 3, none⟩ = some (.int .u64 (q 3 : Nat)) ∧ wx.cell? ⟨Q, 4, none⟩ = some (.int .u64 (q 4 : Nat)) ∧ wx.cell? ⟨Q, 5, none⟩ = some (.int .u64 (q 5 : Nat)) ∧ wx.cell? ⟨Q, 6, none⟩ = some (.int .u64 (q 6 : Nat)) ∧ wx.cell? ⟨Q, 7, none⟩ = some (.int .u64 (q 7 : Nat)) :=
  ⟨h.quo 0 (by omega), h.quo 1 (by omega), h.quo 2 (by omega), h.quo 3 (by omega), h.quo 4 (by omega), h.quo 5 (by omega), h.quo 6 (by omega), h.quo 7 (by omega)⟩
theorem ClQ.rests {w wx : World} {S Q : Nat} {cur q : Nat → Nat} (h : ClQ w S Q cur q wx) : wx.cell? ⟨S, 0, none⟩ = some (.int .u64 (cur 0 : Nat)) ∧ wx.cell? ⟨S, 1, none⟩ = some (.int .u64 (cur 1 : Nat)) ∧ wx.cell? ⟨S, 2, none⟩ = some (.int .u64 (cur 2 : Nat)) ∧ wx.cell? ⟨S, 3, none⟩ = some (.int .u64 (cur 3 : Nat)) :=
  ⟨h.rest 0 (by omega), h.rest 1 (by omega), h.rest 2 (by omega), h.rest 3 (by omega)⟩
end Go.Proofs.YthfadinocadhaaaDoor
namespace Go.Proofs.YthfadinocadhaaaDoor
open Go.RowKit

theorem slice9 (S i n : Nat) (h : i + n + 1 ≤ 9) (w : World) : (Instr.sliceAt 88 (.pointer (some ⟨S, 0, none⟩)) (some (.int .i64 (i : Nat))) (some (.int .i64 ((i : Int) + (n : Int) + 1))) none).run Tryd.prog w = .ok (.slice (some ⟨S, i, none⟩) (n + 1) (9 - i)) w := by
  have hlen : Tryd.prog.arrayLen 88 = 9 := by kernel_rfl
  have hsz : (sizeOf (Tryd.prog.elem 88)).run Tryd.prog w = .ok 1 w := by kernel_rfl
  rw [run_sliceAt_array_lh w 88 ⟨S, 0, none⟩ (by kernel_rfl) .i64 .i64 _ _ (by omega) (by omega) (by rw [hlen]; omega), hsz, hlen]
  simp only [Result.andThen, slicedAt, Addr.add]
  rw [if_neg (by omega), show ((i : Int) + (n : Int) + 1).toNat = i + n + 1 by omega, Int.toNat_natCast, show i + n + 1 - i = n + 1 by omega]
  simp
  omega
theorem slice4 (D n : Nat) (h : n ≤ 4) (w : World) : (Instr.sliceAt 24 (.pointer (some ⟨D, 0, none⟩)) none (some (.int .i64 (n : Nat))) none).run Tryd.prog w = .ok (.slice (some ⟨D, 0, none⟩) n 4) w := by
  have hlen : Tryd.prog.arrayLen 24 = 4 := by kernel_rfl
  have hsz : (sizeOf (Tryd.prog.elem 24)).run Tryd.prog w = .ok 1 w := by kernel_rfl
  rw [run_sliceAt_array_h w 24 ⟨D, 0, none⟩ (by kernel_rfl) .i64 _ (by omega) (by rw [hlen]; omega), hsz, hlen]
  simp only [Result.andThen, slicedAt, Addr.add]
  rw [if_neg (by omega), Int.toNat_natCast]
  simp
end Go.Proofs.YthfadinocadhaaaDoor
namespace Go.Proofs.YthfadinocadhaaaDoor
open Go.RowKit

def DivPostA (ds rs : Nat → Nat) (sr : (Nat → Nat) → Nat → Nat) (n : Nat) (w : World) (e : Ending) (w' : World) : Prop :=
  ∃ cur q : Nat → Nat, e = .returned (.tuple #[.agg #[.int .u64 (q 0 : Nat), .int .u64 (q 1 : Nat), .int .u64 (q 2 : Nat), .int .u64 (q 3 : Nat), .int .u64 (q 4 : Nat), .int .u64 (q 5 : Nat), .int .u64 (q 6 : Nat), .int .u64 (q 7 : Nat)], .agg #[.int .u64 (sr cur 0 : Nat), .int .u64 (sr cur 1 : Nat), .int .u64 (sr cur 2 : Nat), .int .u64 (sr cur 3 : Nat)]]) ∧ (∀ j, j < 9 → cur j < 18446744073709551616) ∧ (∀ j, j < 8 → q j < 18446744073709551616) ∧ val q 8 * val ds n + val cur 9 = val rs 9 ∧ val cur 9 < val ds n ∧ Below w.heap.size w w'

set_option maxRecDepth 100000 in
set_option maxHeartbeats 4000000 in
theorem divide_walk (xs bs ds rs : Nat → Nat) (sr : (Nat → Nat) → Nat → Nat) (n k m s : Nat) (hk : k ≤ 3) (hn : n = k + 1) (hm : m ≤ 8) (hs : s < 64) (w : World)
    (hP : ∀ (B : Nat) (w : World), w.cell? ⟨B, 0, none⟩ = some (.int .u64 (bs 0 : Nat)) → w.cell? ⟨B, 1, none⟩ = some (.int .u64 (bs 1 : Nat)) → w.cell? ⟨B, 2, none⟩ = some (.int .u64 (bs 2 : Nat)) → w.cell? ⟨B, 3, none⟩ = some (.int .u64 (bs 3 : Nat)) →
      Calls Tryd.prog 94 #[.slice (some ⟨B, 0, none⟩) 4 4] w fun e w' => e = .returned (.int .i64 (n : Nat)) ∧ w = w')
    (hL : ∀ w, Calls Tryd.prog 95 #[.int .u64 (bs k : Nat)] w fun e w' => e = .returned (.int .i64 (s : Nat)) ∧ w = w')
    (hShl : ∀ w, Calls Tryd.prog 37 #[.agg #[.int .u64 (s : Nat), .int .u64 0, .int .u64 0, .int .u64 0], .agg #[.int .u64 (bs 0 : Nat), .int .u64 (bs 1 : Nat), .int .u64 (bs 2 : Nat), .int .u64 (bs 3 : Nat)]] w fun e w' => e = .returned (.agg #[.int .u64 (ds 0 : Nat), .int .u64 (ds 1 : Nat), .int .u64 (ds 2 : Nat), .int .u64 (ds 3 : Nat)]) ∧ Below w.heap.size w w')
    (hR : ∀ w, Calls Tryd.prog 96 #[.agg #[.int .u64 (xs 0 : Nat), .int .u64 (xs 1 : Nat), .int .u64 (xs 2 : Nat), .int .u64 (xs 3 : Nat), .int .u64 (xs 4 : Nat), .int .u64 (xs 5 : Nat), .int .u64 (xs 6 : Nat), .int .u64 (xs 7 : Nat)], .int .i64 (s : Nat)] w fun e w' => e = .returned (.agg #[.int .u64 (rs 0 : Nat), .int .u64 (rs 1 : Nat), .int .u64 (rs 2 : Nat), .int .u64 (rs 3 : Nat), .int .u64 (rs 4 : Nat), .int .u64 (rs 5 : Nat), .int .u64 (rs 6 : Nat), .int .u64 (rs 7 : Nat), .int .u64 (rs 8 : Nat)]) ∧ Below w.heap.size w w')
    (hPa : ∀ (B : Nat) (w : World), w.cell? ⟨B, 0, none⟩ = some (.int .u64 (xs 0 : Nat)) → w.cell? ⟨B, 1, none⟩ = some (.int .u64 (xs 1 : Nat)) → w.cell? ⟨B, 2, none⟩ = some (.int .u64 (xs 2 : Nat)) → w.cell? ⟨B, 3, none⟩ = some (.int .u64 (xs 3 : Nat)) → w.cell? ⟨B, 4, none⟩ = some (.int .u64 (xs 4 : Nat)) → w.cell? ⟨B, 5, none⟩ = some (.int .u64 (xs 5 : Nat)) → w.cell? ⟨B, 6, none⟩ = some (.int .u64 (xs 6 : Nat)) → w.cell? ⟨B, 7, none⟩ = some (.int .u64 (xs 7 : Nat)) →
      Calls Tryd.prog 94 #[.slice (some ⟨B, 0, none⟩) 8 8] w fun e w' => e = .returned (.int .i64 (m : Nat)) ∧ w = w')
    (hSr : ∀ (cur : Nat → Nat), (∀ j, j < 9 → cur j < 18446744073709551616) → ∀ w, Calls Tryd.prog 39 #[.agg #[.int .u64 (s : Nat), .int .u64 0, .int .u64 0, .int .u64 0], .agg #[.int .u64 (cur 0 : Nat), .int .u64 (cur 1 : Nat), .int .u64 (cur 2 : Nat), .int .u64 (cur 3 : Nat)]] w fun e w' => e = .returned (.agg #[.int .u64 (sr cur 0 : Nat), .int .u64 (sr cur 1 : Nat), .int .u64 (sr cur 2 : Nat), .int .u64 (sr cur 3 : Nat)]) ∧ Below w.heap.size w w')
    (hrl : ∀ j, j < 9 → rs j < 18446744073709551616) (hdl : ∀ j, j < k + 1 → ds j < 18446744073709551616) (hdk : 9223372036854775808 ≤ ds k)
    (hst : val rs 9 < val ds n * 18446744073709551616 ^ (m + 1 - n)) :
    Calls Tryd.prog 74 #[.agg #[.int .u64 (xs 0 : Nat), .int .u64 (xs 1 : Nat), .int .u64 (xs 2 : Nat), .int .u64 (xs 3 : Nat), .int .u64 (xs 4 : Nat), .int .u64 (xs 5 : Nat), .int .u64 (xs 6 : Nat), .int .u64 (xs 7 : Nat)], .agg #[.int .u64 (bs 0 : Nat), .int .u64 (bs 1 : Nat), .int .u64 (bs 2 : Nat), .int .u64 (bs 3 : Nat)]] w (DivPostA ds rs sr n w) := by
  have HPa := Lib.hid hPa; clear hPa
  have HSR := Lib.hid hSr; clear hSr
  have HRL := Lib.hid hrl; clear hrl
  have HDL := Lib.hid hdl; clear hdl
  have HDK := Lib.hid hdk; clear hdk
  have HST := Lib.hid hst; clear hst
  have i4 : Is ((((w.alloc (.cells #[.int .u64 (xs 0 : Nat), .int .u64 (xs 1 : Nat), .int .u64 (xs 2 : Nat), .int .u64 (xs 3 : Nat), .int .u64 (xs 4 : Nat), .int .u64 (xs 5 : Nat), .int .u64 (xs 6 : Nat), .int .u64 (xs 7 : Nat)] 58)).alloc (.cells #[.int .u64 (bs 0 : Nat), .int .u64 (bs 1 : Nat), .int .u64 (bs 2 : Nat), .int .u64 (bs 3 : Nat)] 24)).alloc (.cells #[.int .u64 0, .int .u64 0, .int .u64 0, .int .u64 0, .int .u64 0, .int .u64 0, .int .u64 0, .int .u64 0] 58)).alloc (.cells #[.int .u64 0, .int .u64 0, .int .u64 0, .int .u64 0] 24)) (w.heap.size + 1 + 1) (.cells #[.int .u64 0, .int .u64 0, .int .u64 0, .int .u64 0, .int .u64 0, .int .u64 0, .int .u64 0, .int .u64 0] 58) := (Is.new _ (by simp)).alloc _
  have i5 : Is ((((w.alloc (.cells #[.int .u64 (xs 0 : Nat), .int .u64 (xs 1 : Nat), .int .u64 (xs 2 : Nat), .int .u64 (xs 3 : Nat), .int .u64 (xs 4 : Nat), .int .u64 (xs 5 : Nat), .int .u64 (xs 6 : Nat), .int .u64 (xs 7 : Nat)] 58)).alloc (.cells #[.int .u64 (bs 0 : Nat), .int .u64 (bs 1 : Nat), .int .u64 (bs 2 : Nat), .int .u64 (bs 3 : Nat)] 24)).alloc (.cells #[.int .u64 0, .int .u64 0, .int .u64 0, .int .u64 0, .int .u64 0, .int .u64 0, .int .u64 0, .int .u64 0] 58)).alloc (.cells #[.int .u64 0, .int .u64 0, .int .u64 0, .int .u64 0] 24)) (w.heap.size + 1 + 1 + 1) (.cells #[.int .u64 0, .int .u64 0, .int .u64 0, .int .u64 0] 24) := Is.new _ (by simp)
  have I4 := Lib.hid i4; clear i4
  have I5 := Lib.hid i5; clear i5
  have HP := Lib.hid hP; clear hP
  have HSH := Lib.hid hShl; clear hShl
  have HR := Lib.hid hR; clear hR
  have hof : ∀ w, Calls Tryd.prog 57 #[.int .u64 (s : Nat)] w fun e w' => e = .returned (.agg #[.int .u64 (s : Nat), .int .u64 0, .int .u64 0, .int .u64 0]) ∧ w.alloc (.cells #[.int .u64 (s : Nat), .int .u64 0, .int .u64 0, .int .u64 0] 24) = w' := fun w => of_exact s w
  have HOF := Lib.hid hof; clear hof
  have h0 : Below w.heap.size w ((((w.alloc (.cells #[.int .u64 (xs 0 : Nat), .int .u64 (xs 1 : Nat), .int .u64 (xs 2 : Nat), .int .u64 (xs 3 : Nat), .int .u64 (xs 4 : Nat), .int .u64 (xs 5 : Nat), .int .u64 (xs 6 : Nat), .int .u64 (xs 7 : Nat)] 58)).alloc (.cells #[.int .u64 (bs 0 : Nat), .int .u64 (bs 1 : Nat), .int .u64 (bs 2 : Nat), .int .u64 (bs 3 : Nat)] 24)).alloc (.cells #[.int .u64 0, .int .u64 0, .int .u64 0, .int .u64 0, .int .u64 0, .int .u64 0, .int .u64 0, .int .u64 0] 58)).alloc (.cells #[.int .u64 0, .int .u64 0, .int .u64 0, .int .u64 0] 24)) := by go_grown
  have H0 := Lib.hid h0; clear h0
  have hnk : (n : Int) - 1 = (k : Int) := by omega
  have hk0 : (0 : Int) ≤ k := by omega
  have hk1 : (k : Int) ≤ 3 := by omega
  have hk4 : (k : Int) < 4 := by omega
  have hn0 : (1 : Int) ≤ n := by omega
  have hn4 : (n : Int) ≤ 4 := by omega
  have hnz : ((n : Int) == 0) = false := by rw [beq_eq_false_iff_ne]; omega
  have hs0 : (0 : Int) ≤ s := by omega
  have hs1 : (s : Int) ≤ 63 := by omega
  have us : IntKind.u64.wrap (s : Int) = (s : Int) := by rw [IntKind.wrap_u64]; omega
  have hm0 : (0 : Int) ≤ m := by omega
  have hm8 : (m : Int) ≤ 8 := by omega
  have ck : ((((w.alloc (.cells #[.int .u64 (xs 0 : Nat), .int .u64 (xs 1 : Nat), .int .u64 (xs 2 : Nat), .int .u64 (xs 3 : Nat), .int .u64 (xs 4 : Nat), .int .u64 (xs 5 : Nat), .int .u64 (xs 6 : Nat), .int .u64 (xs 7 : Nat)] 58)).alloc (.cells #[.int .u64 (bs 0 : Nat), .int .u64 (bs 1 : Nat), .int .u64 (bs 2 : Nat), .int .u64 (bs 3 : Nat)] 24)).alloc (.cells #[.int .u64 0, .int .u64 0, .int .u64 0, .int .u64 0, .int .u64 0, .int .u64 0, .int .u64 0, .int .u64 0] 58)).alloc (.cells #[.int .u64 0, .int .u64 0, .int .u64 0, .int .u64 0] 24)).cell? ⟨w.heap.size + 1, k, none⟩ = some (.int .u64 (bs k : Nat)) :=
    upto4 (P := fun k => ((((w.alloc (.cells #[.int .u64 (xs 0 : Nat), .int .u64 (xs 1 : Nat), .int .u64 (xs 2 : Nat), .int .u64 (xs 3 : Nat), .int .u64 (xs 4 : Nat), .int .u64 (xs 5 : Nat), .int .u64 (xs 6 : Nat), .int .u64 (xs 7 : Nat)] 58)).alloc (.cells #[.int .u64 (bs 0 : Nat), .int .u64 (bs 1 : Nat), .int .u64 (bs 2 : Nat), .int .u64 (bs 3 : Nat)] 24)).alloc (.cells #[.int .u64 0, .int .u64 0, .int .u64 0, .int .u64 0, .int .u64 0, .int .u64 0, .int .u64 0, .int .u64 0] 58)).alloc (.cells #[.int .u64 0, .int .u64 0, .int .u64 0, .int .u64 0] 24)).cell? ⟨w.heap.size + 1, k, none⟩ = some (.int .u64 (bs k : Nat))) (by go_cell) (by go_cell) (by go_cell) (by go_cell) k (by omega)
  have HN := Lib.hid hn; clear hn
  go_enter Tryd.func74, Tryd.ntmps74
  go_wp2_with fail
  refine (HP.out (w.heap.size + 1) ((((w.alloc (.cells #[.int .u64 (xs 0 : Nat), .int .u64 (xs 1 : Nat), .int .u64 (xs 2 : Nat), .int .u64 (xs 3 : Nat), .int .u64 (xs 4 : Nat), .int .u64 (xs 5 : Nat), .int .u64 (xs 6 : Nat), .int .u64 (xs 7 : Nat)] 58)).alloc (.cells #[.int .u64 (bs 0 : Nat), .int .u64 (bs 1 : Nat), .int .u64 (bs 2 : Nat), .int .u64 (bs 3 : Nat)] 24)).alloc (.cells #[.int .u64 0, .int .u64 0, .int .u64 0, .int .u64 0, .int .u64 0, .int .u64 0, .int .u64 0, .int .u64 0] 58)).alloc (.cells #[.int .u64 0, .int .u64 0, .int .u64 0, .int .u64 0] 24)) (by go_cell) (by go_cell) (by go_cell) (by go_cell)).mono ?_
  rintro e w' ⟨rfl, rfl⟩
  go_wp2_with fail
  refine (hL _).mono ?_
  rintro e w' ⟨rfl, rfl⟩
  clear ck
  go_wp2_with fail
  go_cut [8] (fun v wx => CutE w ((((w.alloc (.cells #[.int .u64 (xs 0 : Nat), .int .u64 (xs 1 : Nat), .int .u64 (xs 2 : Nat), .int .u64 (xs 3 : Nat), .int .u64 (xs 4 : Nat), .int .u64 (xs 5 : Nat), .int .u64 (xs 6 : Nat), .int .u64 (xs 7 : Nat)] 58)).alloc (.cells #[.int .u64 (bs 0 : Nat), .int .u64 (bs 1 : Nat), .int .u64 (bs 2 : Nat), .int .u64 (bs 3 : Nat)] 24)).alloc (.cells #[.int .u64 0, .int .u64 0, .int .u64 0, .int .u64 0, .int .u64 0, .int .u64 0, .int .u64 0, .int .u64 0] 58)).alloc (.cells #[.int .u64 0, .int .u64 0, .int .u64 0, .int .u64 0] 24)) (w.heap.size + 1 + 1 + 1 + 1) ds v wx)
  case first =>
    go_region_with (first | (go_at_call 57; refine (HOF.out _).mono ?_; rintro e w' ⟨rfl, rfl⟩) | (go_at_call 37; refine (HSH.out _).mono ?_; rintro e w' ⟨rfl, hb⟩; (try (refine after4k (w.heap.size + 1 + 1 + 1 + 1) hb ?_ ?_ ?_ ?_ ?_ ?_ ?_ ?_ ?_ ?_; (focus (first | (simp; done) | (simp; omega))); (focus (go_cell; done)); (focus (go_cell; done)); (focus (go_cell; done)); (focus (go_cell; done)); (focus (go_cell; done)); (focus (go_cell; done)); (focus (go_cell; done)); (focus (go_cell; done)); rintro ⟨q0, q1, q2, q3⟩ ⟨fq0, fq1, fq2, fq3⟩ zq)); (try (refine after4k (w.heap.size + 1 + 1 + 1 + 1 + 1) hb ?_ ?_ ?_ ?_ ?_ ?_ ?_ ?_ ?_ ?_; (focus (first | (simp; done) | (simp; omega))); (focus (go_cell; done)); (focus (go_cell; done)); (focus (go_cell; done)); (focus (go_cell; done)); (focus (go_cell; done)); (focus (go_cell; done)); (focus (go_cell; done)); (focus (go_cell; done)); rintro ⟨r0, r1, r2, r3⟩ ⟨fr0, fr1, fr2, fr3⟩ zr))))
    all_goals go_wp2_with fail
    all_goals go_meet
    all_goals
      have hbs := hb.size
      have hb2 : Below (w.heap.size + 1 + 1 + 1 + 1) ((((w.alloc (.cells #[.int .u64 (xs 0 : Nat), .int .u64 (xs 1 : Nat), .int .u64 (xs 2 : Nat), .int .u64 (xs 3 : Nat), .int .u64 (xs 4 : Nat), .int .u64 (xs 5 : Nat), .int .u64 (xs 6 : Nat), .int .u64 (xs 7 : Nat)] 58)).alloc (.cells #[.int .u64 (bs 0 : Nat), .int .u64 (bs 1 : Nat), .int .u64 (bs 2 : Nat), .int .u64 (bs 3 : Nat)] 24)).alloc (.cells #[.int .u64 0, .int .u64 0, .int .u64 0, .int .u64 0, .int .u64 0, .int .u64 0, .int .u64 0, .int .u64 0] 58)).alloc (.cells #[.int .u64 0, .int .u64 0, .int .u64 0, .int .u64 0] 24)) w' := Below.trans (by go_grown) (hb.mono (by first | (simp; done) | (simp; omega)))
      simp at hbs
      refine cutE_mk ?_ ?_ ?_ H0.out (by omega) ?_ ?_ ?_ ?_
      · first | omega | (simp; omega)
      · first | omega | (simp; done) | (simp; omega)
      · go_grown
      · go_cell
      · go_cell
      · go_cell
      · go_cell
  case rest =>
    obtain ⟨D, rfl, hD1, hD2, hB1, hB2, cD⟩ := hcut
    have a0 : wc.cell? ⟨w.heap.size, 0, none⟩ = some (.int .u64 (xs 0 : Nat)) := (hB1.cell (p := ⟨w.heap.size, 0, none⟩) (by simp; omega)).trans (by go_cell)
    have a1 : wc.cell? ⟨w.heap.size, 1, none⟩ = some (.int .u64 (xs 1 : Nat)) := (hB1.cell (p := ⟨w.heap.size, 1, none⟩) (by simp; omega)).trans (by go_cell)
    have a2 : wc.cell? ⟨w.heap.size, 2, none⟩ = some (.int .u64 (xs 2 : Nat)) := (hB1.cell (p := ⟨w.heap.size, 2, none⟩) (by simp; omega)).trans (by go_cell)
    have a3 : wc.cell? ⟨w.heap.size, 3, none⟩ = some (.int .u64 (xs 3 : Nat)) := (hB1.cell (p := ⟨w.heap.size, 3, none⟩) (by simp; omega)).trans (by go_cell)
    have a4 : wc.cell? ⟨w.heap.size, 4, none⟩ = some (.int .u64 (xs 4 : Nat)) := (hB1.cell (p := ⟨w.heap.size, 4, none⟩) (by simp; omega)).trans (by go_cell)
    have a5 : wc.cell? ⟨w.heap.size, 5, none⟩ = some (.int .u64 (xs 5 : Nat)) := (hB1.cell (p := ⟨w.heap.size, 5, none⟩) (by simp; omega)).trans (by go_cell)
    have a6 : wc.cell? ⟨w.heap.size, 6, none⟩ = some (.int .u64 (xs 6 : Nat)) := (hB1.cell (p := ⟨w.heap.size, 6, none⟩) (by simp; omega)).trans (by go_cell)
    have a7 : wc.cell? ⟨w.heap.size, 7, none⟩ = some (.int .u64 (xs 7 : Nat)) := (hB1.cell (p := ⟨w.heap.size, 7, none⟩) (by simp; omega)).trans (by go_cell)
    go_wp2_with fail
    refine (HR.out _).mono ?_
    rintro e w2 ⟨rfl, hb⟩
    have hsz : wc.heap.size ≤ w2.heap.size := hb.size
    have g0 : w2.cell? ⟨w.heap.size, 0, none⟩ = some (.int .u64 (xs 0 : Nat)) := (hb.cell (p := ⟨w.heap.size, 0, none⟩) (by show w.heap.size < wc.heap.size; omega)).trans a0
    have g1 : w2.cell? ⟨w.heap.size, 1, none⟩ = some (.int .u64 (xs 1 : Nat)) := (hb.cell (p := ⟨w.heap.size, 1, none⟩) (by show w.heap.size < wc.heap.size; omega)).trans a1
    have g2 : w2.cell? ⟨w.heap.size, 2, none⟩ = some (.int .u64 (xs 2 : Nat)) := (hb.cell (p := ⟨w.heap.size, 2, none⟩) (by show w.heap.size < wc.heap.size; omega)).trans a2
    have g3 : w2.cell? ⟨w.heap.size, 3, none⟩ = some (.int .u64 (xs 3 : Nat)) := (hb.cell (p := ⟨w.heap.size, 3, none⟩) (by show w.heap.size < wc.heap.size; omega)).trans a3
    have g4 : w2.cell? ⟨w.heap.size, 4, none⟩ = some (.int .u64 (xs 4 : Nat)) := (hb.cell (p := ⟨w.heap.size, 4, none⟩) (by show w.heap.size < wc.heap.size; omega)).trans a4
    have g5 : w2.cell? ⟨w.heap.size, 5, none⟩ = some (.int .u64 (xs 5 : Nat)) := (hb.cell (p := ⟨w.heap.size, 5, none⟩) (by show w.heap.size < wc.heap.size; omega)).trans a5
    have g6 : w2.cell? ⟨w.heap.size, 6, none⟩ = some (.int .u64 (xs 6 : Nat)) := (hb.cell (p := ⟨w.heap.size, 6, none⟩) (by show w.heap.size < wc.heap.size; omega)).trans a6
    have g7 : w2.cell? ⟨w.heap.size, 7, none⟩ = some (.int .u64 (xs 7 : Nat)) := (hb.cell (p := ⟨w.heap.size, 7, none⟩) (by show w.heap.size < wc.heap.size; omega)).trans a7
    obtain ⟨y0, y1, y2, y3⟩ := cD.below hb hD2
    have J4 := Lib.hid ((I4.out.below hB1 (by omega)).below hb (by omega))
    have J5 := Lib.hid ((I5.out.below hB1 (by omega)).below hb (by omega))
    have hB3 : Below w.heap.size w w2 := hB2.trans (hb.mono (by omega))
    clear hb hB1 hB2 a0 a1 a2 a3 a4 a5 a6 a7 cD
    have hDlt : D < w2.heap.size := by omega
    have hwlt : w.heap.size < w2.heap.size := by omega
    have hl5 : w.heap.size + 1 + 1 + 1 < w2.heap.size := J5.out.lt
    have hDW : DivW w w2.heap.size (w2.heap.size + 1) D (w2.heap.size + 1 + 1) ds rs (fun _ => 0) ((w2.alloc (.cells #[.int .u64 (rs 0 : Nat), .int .u64 (rs 1 : Nat), .int .u64 (rs 2 : Nat), .int .u64 (rs 3 : Nat), .int .u64 (rs 4 : Nat), .int .u64 (rs 5 : Nat), .int .u64 (rs 6 : Nat), .int .u64 (rs 7 : Nat), .int .u64 (rs 8 : Nat)] 88)).alloc (.cells #[.int .u64 0, .int .u64 0, .int .u64 0, .int .u64 0, .int .u64 0, .int .u64 0, .int .u64 0, .int .u64 0] 58)) :=
      ⟨hB3.trans (Below.mono (B := w2.heap.size) (by go_grown) (by omega)), by simp, (J4.out.alloc _).alloc _, (J5.out.alloc _).alloc _,
        upto9 (P := fun j => ((w2.alloc (.cells #[.int .u64 (rs 0 : Nat), .int .u64 (rs 1 : Nat), .int .u64 (rs 2 : Nat), .int .u64 (rs 3 : Nat), .int .u64 (rs 4 : Nat), .int .u64 (rs 5 : Nat), .int .u64 (rs 6 : Nat), .int .u64 (rs 7 : Nat), .int .u64 (rs 8 : Nat)] 88)).alloc (.cells #[.int .u64 0, .int .u64 0, .int .u64 0, .int .u64 0, .int .u64 0, .int .u64 0, .int .u64 0, .int .u64 0] 58)).cell? ⟨w2.heap.size, j, none⟩ = some (.int .u64 (rs j : Nat))) (by go_cell) (by go_cell) (by go_cell) (by go_cell) (by go_cell) (by go_cell) (by go_cell) (by go_cell) (by go_cell) ,
        upto9 (P := fun j => ((w2.alloc (.cells #[.int .u64 (rs 0 : Nat), .int .u64 (rs 1 : Nat), .int .u64 (rs 2 : Nat), .int .u64 (rs 3 : Nat), .int .u64 (rs 4 : Nat), .int .u64 (rs 5 : Nat), .int .u64 (rs 6 : Nat), .int .u64 (rs 7 : Nat), .int .u64 (rs 8 : Nat)] 88)).alloc (.cells #[.int .u64 0, .int .u64 0, .int .u64 0, .int .u64 0, .int .u64 0, .int .u64 0, .int .u64 0, .int .u64 0] 58)).frozen? ⟨w2.heap.size, j, none⟩ = false) (by go_cell) (by go_cell) (by go_cell) (by go_cell) (by go_cell) (by go_cell) (by go_cell) (by go_cell) (by go_cell) ,
        upto8 (P := fun j => ((w2.alloc (.cells #[.int .u64 (rs 0 : Nat), .int .u64 (rs 1 : Nat), .int .u64 (rs 2 : Nat), .int .u64 (rs 3 : Nat), .int .u64 (rs 4 : Nat), .int .u64 (rs 5 : Nat), .int .u64 (rs 6 : Nat), .int .u64 (rs 7 : Nat), .int .u64 (rs 8 : Nat)] 88)).alloc (.cells #[.int .u64 0, .int .u64 0, .int .u64 0, .int .u64 0, .int .u64 0, .int .u64 0, .int .u64 0, .int .u64 0] 58)).cell? ⟨w2.heap.size + 1, j, none⟩ = some (.int .u64 0)) (by go_cell) (by go_cell) (by go_cell) (by go_cell) (by go_cell) (by go_cell) (by go_cell) (by go_cell) ,
        upto8 (P := fun j => ((w2.alloc (.cells #[.int .u64 (rs 0 : Nat), .int .u64 (rs 1 : Nat), .int .u64 (rs 2 : Nat), .int .u64 (rs 3 : Nat), .int .u64 (rs 4 : Nat), .int .u64 (rs 5 : Nat), .int .u64 (rs 6 : Nat), .int .u64 (rs 7 : Nat), .int .u64 (rs 8 : Nat)] 88)).alloc (.cells #[.int .u64 0, .int .u64 0, .int .u64 0, .int .u64 0, .int .u64 0, .int .u64 0, .int .u64 0, .int .u64 0] 58)).frozen? ⟨w2.heap.size + 1, j, none⟩ = false) (by go_cell) (by go_cell) (by go_cell) (by go_cell) (by go_cell) (by go_cell) (by go_cell) (by go_cell) ,
        upto4 (P := fun j => ((w2.alloc (.cells #[.int .u64 (rs 0 : Nat), .int .u64 (rs 1 : Nat), .int .u64 (rs 2 : Nat), .int .u64 (rs 3 : Nat), .int .u64 (rs 4 : Nat), .int .u64 (rs 5 : Nat), .int .u64 (rs 6 : Nat), .int .u64 (rs 7 : Nat), .int .u64 (rs 8 : Nat)] 88)).alloc (.cells #[.int .u64 0, .int .u64 0, .int .u64 0, .int .u64 0, .int .u64 0, .int .u64 0, .int .u64 0, .int .u64 0] 58)).cell? ⟨D, j, none⟩ = some (.int .u64 (ds j : Nat))) (by go_cell) (by go_cell) (by go_cell) (by go_cell) ⟩
    have HDW := Lib.hid hDW; clear hDW
    clear y0 y1 y2 y3
    go_wp2_with fail
    refine (HPa.out w.heap.size ((w2.alloc (.cells #[.int .u64 (rs 0 : Nat), .int .u64 (rs 1 : Nat), .int .u64 (rs 2 : Nat), .int .u64 (rs 3 : Nat), .int .u64 (rs 4 : Nat), .int .u64 (rs 5 : Nat), .int .u64 (rs 6 : Nat), .int .u64 (rs 7 : Nat), .int .u64 (rs 8 : Nat)] 88)).alloc (.cells #[.int .u64 0, .int .u64 0, .int .u64 0, .int .u64 0, .int .u64 0, .int .u64 0, .int .u64 0, .int .u64 0] 58)) (by go_cell) (by go_cell) (by go_cell) (by go_cell) (by go_cell) (by go_cell) (by go_cell) (by go_cell)).mono ?_
    rintro e w' ⟨rfl, rfl⟩
    clear g0 g1 g2 g3 g4 g5 g6 g7
    have hle : val rs 9 = val (fun _ => 0) 8 * val ds n + val rs 9 := by rw [val_zero 8 (fun _ _ => rfl)]; omega
    have HLE := Lib.hid hle; clear hle
    go_wp2_with fail
    go_loopw [11] (fun iv wr => ∃ (z : Int) (cur q : Nat → Nat), iv = .int .i64 z ∧ -4 ≤ z ∧ z ≤ (m : Int) - n ∧ Hid (DivW w w2.heap.size (w2.heap.size + 1) D (w2.heap.size + 1 + 1) ds cur q wr ∧ (∀ j, j < 9 → cur j < 18446744073709551616) ∧ (∀ j, j < 8 → q j < 18446744073709551616) ∧ (∀ j, j < (z + 1).toNat → q j = 0) ∧ val q 8 * val ds n + val cur 9 = val rs 9 ∧ val cur 9 < val ds n * 18446744073709551616 ^ (z + 1).toNat)) (fun iv _ => (intOf iv + 5).toNat)
    case atStart =>
      refine ⟨(m : Int) - n, rs, fun _ => 0, rfl, by omega, by omega, Lib.hid ⟨HDW.out, HRL.out, fun _ _ => by show 0 < _; omega, fun _ _ => rfl, HLE.out.symm, ?_⟩⟩
      rw [show ((m : Int) - n + 1).toNat = m + 1 - n by omega]; exact HST.out
    case round =>
      obtain ⟨z, cur, q, rfl, hz0, hz1, H⟩ := hrel
      by_cases hz : 0 ≤ z
      · obtain ⟨i, rfl⟩ := Int.eq_ofNat_of_zero_le hz
        have hi4 : (i : Int) + n ≤ 8 := by omega
        have hi8 : (i : Int) < 8 := by omega
        have w1 : IntKind.i64.wrap ((i : Int) + n) = (i : Int) + n := IntWalk.i64_in _ (by omega)
        have w2' : IntKind.i64.wrap ((i : Int) + n + 1) = (i : Int) + n + 1 := IntWalk.i64_in _ (by omega)
        have w3 : IntKind.i64.wrap (i : Int) = (i : Int) := IntWalk.i64_in _ (by omega)
        have w4 : IntKind.i64.wrap (n : Int) = (n : Int) := IntWalk.i64_in _ (by omega)
        have sl9 := fun w => slice9 w2.heap.size i n (by omega) w
        have sl4 := fun w => slice4 D n (by omega) w
        have hD1 : 0 < val ds n := by
          have h1 := val_ge ds k
          have h2 := Nat.mul_pos (Nat.pow_pos (n := k) (show 0 < 18446744073709551616 by omega)) (show 0 < ds k by have := HDK.out; omega)
          rw [HN.out]; omega
        have hDn : val ds n ≤ 18446744073709551616 ^ n := by rw [HN.out]; exact Nat.le_of_lt (val_lt HDL.out)
        have hlt9 : val cur 9 < val ds n * 18446744073709551616 ^ (i + 1) := by have := H.out.2.2.2.2.2; rwa [show ((i : Int) + 1).toNat = i + 1 by omega] at this
        have htk := div_take (i := i) hDn (by omega) hlt9
        have hcall := step_any w2.heap.size i (9 - i) D 4 k (fun j => cur (i + j)) ds (by omega) (fun j hj => H.out.2.1 _ (by have := HN.out; omega)) HDL.out HDK.out (by rw [show k + 2 = n + 1 by rw [HN.out], ← HN.out]; exact htk.2.2) (by omega) wr.drew (fun j hj => H.out.1.rest _ (by have := HN.out; omega)) (fun j hj => H.out.1.restf _ (by have := HN.out; omega)) (fun j hj => H.out.1.by_ _ (by omega))
        rw [← HN.out] at hcall
        have HCA := Lib.hid hcall; clear hcall
        have HD1 := Lib.hid hD1; clear hD1
        have HDn := Lib.hid hDn; clear hDn
        have HLT := Lib.hid hlt9; clear hlt9 htk
        have hqc : ∀ w3, But w2.heap.size wr.drew w3 → w3.cell? ⟨w2.heap.size + 1, i, none⟩ = some (.int .u64 (q i : Nat)) ∧ w3.frozen? ⟨w2.heap.size + 1, i, none⟩ = false := fun w3 hb =>
          ⟨(hb.cell (p := ⟨w2.heap.size + 1, i, none⟩) (by show w2.heap.size + 1 ≠ w2.heap.size; omega)).trans (H.out.1.quo i (by omega)), (World.frozen?_of_block (w := wr.drew) (a := ⟨w2.heap.size + 1, i, none⟩) (hb.block (w2.heap.size + 1) (by omega))).trans (H.out.1.quof i (by omega))⟩
        have HQC := Lib.hid hqc; clear hqc
        clear hz
        go_wp2_with fail
        go_region_with (go_at_call 97; refine HCA.out.mono ?_; rintro e w3 ⟨ns, rfl, hn1, hn2, hn3⟩; obtain ⟨cq, fq⟩ := HQC.out _ hn3.1; have HN1 := Lib.hid hn1; have HN2 := Lib.hid hn2; have HN3 := Lib.hid hn3; clear hn1 hn2 hn3)
        go_wp2_with fail
        go_roundw
        case rel =>
          obtain ⟨e1, e2, e3⟩ := div_round (q := q) (ns := ns) H.out.2.1 HD1.out HDn.out (by omega) (by omega) HLT.out H.out.2.2.2.2.1 (H.out.2.2.2.1 i (by omega)) rfl HN2.out
          have hstep := H.out.1.drew.step (part := val (fun j => cur (i + j)) (n + 1) / val ds n) HN3.out (by omega) (by omega) (by omega) (by omega) (by omega) hl5 (by omega)
          rw [Int.natCast_ediv] at hstep
          refine ⟨(i : Int) - 1, curN cur ns i n, quoN q i (val (fun j => cur (i + j)) (n + 1) / val ds n), rfl, by omega, by omega, Lib.hid ⟨hstep, fun j hj => ?_, fun j hj => ?_, fun j hj => ?_, e1, ?_⟩⟩
          · unfold curN; split
            · exact HN1.out _ (by omega)
            · exact H.out.2.1 j hj
          · unfold quoN; split
            · exact e3
            · exact H.out.2.2.1 j hj
          · unfold quoN; rw [if_neg (by omega)]; exact H.out.2.2.2.1 j (by omega)
          · rw [show ((i : Int) - 1 + 1).toNat = i by omega]; exact e2
        case measure => simp [intOf]; omega
      · have hend : val cur 9 < val ds n := by have := H.out.2.2.2.2.2; rwa [show (z + 1).toNat = 0 by omega, Nat.pow_zero, Nat.mul_one] at this
        have HE := Lib.hid hend; clear hend
        have hlt : z < 0 := by omega
        have hzf : decide (0 ≤ z) = false := by rw [decide_eq_false_iff_not]; exact hz
        go_wp2_with fail
        have hat := arrayAt4
        have hcl : ClQ w w2.heap.size (w2.heap.size + 1) cur q wr.drew := ⟨H.out.1.below.drew, H.out.1.r4, H.out.1.r5, H.out.1.quo, H.out.1.rest, by show w2.heap.size + 1 < wr.heap.size; rw [H.out.1.size]; omega, by show w2.heap.size < wr.heap.size; rw [H.out.1.size]; omega⟩
        refine region_quiet_tail 8 (ClQ w w2.heap.size (w2.heap.size + 1) cur q) (by kernel_rfl) (by kernel_rfl) hcl ?_
        simp only [List.take_succ_cons, List.take_zero, List.drop_succ_cons, List.drop_zero]
        clear hcl
        refine wpQuiet_step (fun K hK => ?_)
        rw [if_pos (by rfl)]
        refine ⟨.agg #[.int .u64 (q 0 : Nat), .int .u64 (q 1 : Nat), .int .u64 (q 2 : Nat), .int .u64 (q 3 : Nat), .int .u64 (q 4 : Nat), .int .u64 (q 5 : Nat), .int .u64 (q 6 : Nat), .int .u64 (q 7 : Nat)], fun wx hC => ?_, hK _ ?_⟩
        · obtain ⟨q0, q1, q2, q3, q4, q5, q6, q7⟩ := hC.quos
          clear hC
          go_simp
        clear hK K
        refine wpQuiet_step (fun K hK => ?_)
        go_simp
        refine ⟨_, fun _ _ => rfl, hK _ ?_⟩
        clear hK K
        refine wpQuiet_step (fun K hK => ?_)
        go_simp
        refine ⟨_, fun _ _ => rfl, hK _ ?_⟩
        clear hK K
        refine wpQuiet_step (fun K hK => ?_)
        rw [if_pos (by rfl)]
        refine ⟨.agg #[.int .u64 (s : Nat), .int .u64 0, .int .u64 0, .int .u64 0], fun wx hC => ?_, hK _ ?_⟩
        · go_simp
          refine (HOF.out _).mono ?_
          rintro e w' ⟨rfl, rfl⟩
          exact ⟨rfl, hC.grown (by go_grown)⟩
        clear hK K
        refine wpQuiet_step (fun K hK => ?_)
        go_simp
        refine ⟨_, fun _ _ => rfl, hK _ ?_⟩
        clear hK K
        refine wpQuiet_step (fun K hK => ?_)
        go_simp
        refine ⟨_, fun _ _ => rfl, hK _ ?_⟩
        clear hK K
        refine wpQuiet_step (fun K hK => ?_)
        rw [if_pos (by rfl)]
        refine ⟨.agg #[.int .u64 (cur 0 : Nat), .int .u64 (cur 1 : Nat), .int .u64 (cur 2 : Nat), .int .u64 (cur 3 : Nat)], fun wx hC => ?_, hK _ ?_⟩
        · obtain ⟨c0, c1, c2, c3⟩ := hC.rests
          clear hC
          go_simp
        clear hK K
        refine wpQuiet_step (fun K hK => ?_)
        rw [if_pos (by rfl)]
        refine ⟨.agg #[.int .u64 (sr cur 0 : Nat), .int .u64 (sr cur 1 : Nat), .int .u64 (sr cur 2 : Nat), .int .u64 (sr cur 3 : Nat)], fun wx hC => ?_, hK _ ?_⟩
        · go_simp
          refine (HSR.out _ H.out.2.1 _).mono ?_
          rintro e w' ⟨rfl, hb⟩
          exact ⟨rfl, hC.grown hb⟩
        clear hK K
        refine wpQuiet_nil ?_
        intro wx hC
        have h4 := hC.r4
        have h5 := hC.r5
        have hB := Lib.hid hC.below
        clear hC
        obtain ⟨⟨c0, c1, c2, c3, c4, c5, c6, c7⟩, ⟨e0, e1, e2, e3, e4, e5, e6, e7⟩⟩ := h4.z8
        obtain ⟨⟨k0, k1, k2, k3⟩, ⟨l0, l1, l2, l3⟩⟩ := h5.z4
        have hlt4 := h4.lt
        have hlt5 := h5.lt
        clear h4 h5
        go_wp2
        refine bodyPost_ret (v := .tuple #[.agg #[.int .u64 (q 0 : Nat), .int .u64 (q 1 : Nat), .int .u64 (q 2 : Nat), .int .u64 (q 3 : Nat), .int .u64 (q 4 : Nat), .int .u64 (q 5 : Nat), .int .u64 (q 6 : Nat), .int .u64 (q 7 : Nat)], .agg #[.int .u64 (sr cur 0 : Nat), .int .u64 (sr cur 1 : Nat), .int .u64 (sr cur 2 : Nat), .int .u64 (sr cur 3 : Nat)]]) (by simp [results, Tryd.results74, go_sem, c0, c1, c2, c3, c4, c5, c6, c7, k0, k1, k2, k3]; try rfl) rfl ⟨cur, q, rfl, H.out.2.1, H.out.2.2.1, H.out.2.2.2.2.1, HE.out, ?_⟩
        have hB2 := hB.out
        go_grown
end Go.Proofs.YthfadinocadhaaaDoor
namespace Go.Proofs.YthfadinocadhaaaDoor
open Go.RowKit

theorem wv_one {x : Nat} (h : x < 18446744073709551616) : wv x = .agg #[.int .u64 x, .int .u64 0, .int .u64 0, .int .u64 0] := by
  have := wv_n4 (a0 := x) (a1 := 0) (a2 := 0) (a3 := 0) h (by omega) (by omega) (by omega)
  rw [show n4 x 0 0 0 = x by unfold n4; omega] at this
  exact this
theorem wv_none : wv 0 = .agg #[.int .u64 0, .int .u64 0, .int .u64 0, .int .u64 0] := wv_one (by omega)

theorem raise_zero (x : Nat) (hx : x < 18446744073709551616) (w : World) : Calls Tryd.prog 96 #[.agg #[.int .u64 x, .int .u64 0, .int .u64 0, .int .u64 0, .int .u64 0, .int .u64 0, .int .u64 0, .int .u64 0], .int .i64 0] w fun e w' => e = .returned (.agg #[.int .u64 x, .int .u64 0, .int .u64 0, .int .u64 0, .int .u64 0, .int .u64 0, .int .u64 0, .int .u64 0, .int .u64 0]) ∧ Below w.heap.size w w' := by
  have h := raise_walk x 0 0 0 0 0 0 0 0 64 (by omega) (by omega) (by omega) w
  have e0 : bits .or .u64 0 (IntKind.u64.wrap ((x : Int) * 2 ^ 0)) = (x : Int) := by
    have := cmb_down (p := 0) (q := x) (s := 64) (t := 0) (by omega) (by omega)
    simp only [Nat.zero_div, Nat.zero_add, Nat.pow_zero, Nat.mul_one, Nat.mod_eq_of_lt hx] at this
    exact this
  have e1 : bits .or .u64 ((x : Int) / 2 ^ 64) (IntKind.u64.wrap (((0 : Nat) : Int) * 2 ^ 0)) = 0 := by
    have := cmb_down (p := x) (q := 0) (s := 64) (t := 0) hx (by omega)
    rw [Nat.zero_mul, Nat.zero_mod, Nat.div_eq_of_lt (show x < 2 ^ 64 by omega)] at this
    exact this
  have e2 : bits .or .u64 (((0 : Nat) : Int) / 2 ^ 64) (IntKind.u64.wrap (((0 : Nat) : Int) * 2 ^ 0)) = 0 := by
    have := cmb_down (p := 0) (q := 0) (s := 64) (t := 0) (by omega) (by omega)
    rw [Nat.zero_mul, Nat.zero_mod, Nat.zero_div] at this
    exact this
  have e3 : (((0 : Nat) : Int) / 2 ^ 64) = 0 := by simp
  rw [e0, e1, e2, e3] at h
  exact h

theorem step_one (x b : Nat) (hx : x < b) (hb0 : 9223372036854775808 ≤ b) (hb1 : b < 18446744073709551616) (S D : Nat) (w : World) (hne : D ≠ S) (c0 : w.cell? ⟨S, 0, none⟩ = some (.int .u64 x)) (c1 : w.cell? ⟨S, 1, none⟩ = some (.int .u64 0)) (f0 : w.frozen? ⟨S, 0, none⟩ = false) (f1 : w.frozen? ⟨S, 1, none⟩ = false) (d0 : w.cell? ⟨D, 0, none⟩ = some (.int .u64 b)) :
    Calls Tryd.prog 97 #[.slice (some ⟨S, 0, none⟩) 2 9, .slice (some ⟨D, 0, none⟩) 1 4] w (OnePost S x w) := by
  have hr : val (fun j => if j = 0 then x else 0) 2 = x := by simp [val]
  have hd : val (fun _ => b) 1 = b := by simp [val]
  have h := step_any S 0 9 D 4 0 (fun j => if j = 0 then x else 0) (fun _ => b) (by omega) (fun j _ => by show (if j = 0 then x else 0) < 18446744073709551616; split <;> omega) (fun _ _ => hb1) hb0 (by rw [hr, hd]; omega) hne w
    (fun j hj => by
      rcases j with _ | _ | j
      · exact c0
      · exact c1
      · omega)
    (fun j hj => by
      rcases j with _ | _ | j
      · exact f0
      · exact f1
      · omega)
    (fun j hj => by
      rcases j with _ | j
      · exact d0
      · omega)
  refine h.mono fun e w' ⟨ns, he, hb, hv, ho⟩ => ?_
  rw [hr, hd, Nat.div_eq_of_lt hx] at he
  rw [hr, hd, Nat.mod_eq_of_lt hx] at hv
  have h0 := hb 0 (by omega)
  have h1 := hb 1 (by omega)
  simp only [val, Nat.pow_zero, Nat.zero_add, Nat.one_mul, Nat.pow_one] at hv
  have n1 : ns 1 = 0 := by omega
  have n0 : ns 0 = x := by omega
  refine ⟨he, ho.1, ?_, ?_, ?_, ?_⟩
  · rw [ho.2 0, if_pos (by omega), n0]
  · rw [ho.2 1, if_pos (by omega), n1]; rfl
  · rw [ho.2 2, if_neg (by omega)]
  · rw [ho.2 3, if_neg (by omega)]

theorem parts_one (x n : Nat) (hx : x ≠ 0) (hn : (n : Int) ≤ 1000) (B : Nat) (w : World) (hc : ∀ j, j < n + 1 → w.cell? ⟨B, 0 + j, none⟩ = some (.int .u64 ((if j = 0 then x else 0 : Nat) : Int))) :
    Calls Tryd.prog 94 #[.slice (some ⟨B, 0, none⟩) ((n + 1 : Nat)) ((n + 1 : Nat))] w fun e w' => e = .returned (.int .i64 1) ∧ w = w' := by
  have h := parts_any B 0 (n + 1) (n + 1) (fun j => if j = 0 then x else 0) (by omega) w hc
  have e : ∀ k, np (fun j => if j = 0 then x else 0) (k + 1) = 1 := fun k => by
    induction k with
    | zero => simp [np, hx]
    | succ k ih => rw [np, if_pos (by simp)]; exact ih
  rw [e] at h
  exact h

-- WHAT divide COMES TO, one part by a greater one.
theorem divide_small (x b : Nat) (hx0 : x ≠ 0) (hx : x < b) (hb0 : 9223372036854775808 ≤ b) (hb1 : b < 18446744073709551616) (w : World) :
    Calls Tryd.prog 74 #[.agg #[.int .u64 x, .int .u64 0, .int .u64 0, .int .u64 0, .int .u64 0, .int .u64 0, .int .u64 0, .int .u64 0], .agg #[.int .u64 b, .int .u64 0, .int .u64 0, .int .u64 0]] w fun e w' => e = .returned (.tuple #[.agg #[.int .u64 0, .int .u64 0, .int .u64 0, .int .u64 0, .int .u64 0, .int .u64 0, .int .u64 0, .int .u64 0], .agg #[.int .u64 x, .int .u64 0, .int .u64 0, .int .u64 0]]) ∧ Below w.heap.size w w' := by
  have hz : Lib.bitLen ((b : Int)).toNat = 64 := by rw [Int.toNat_natCast]; exact bitLen_full b hb1 hb0
  refine divide_one x b w (fun B w c0 c1 c2 c3 => parts_one b 3 (by omega) (by omega) B w (fun j hj => by
      rcases j with _ | _ | _ | _ | j
      · exact c0
      · exact c1
      · exact c2
      · exact c3
      · omega))
    (fun w => (Tryd.bits_LeadingZeros64 b w (by omega) (by omega)).mono fun e w' ⟨he, hw⟩ => ⟨by rw [he, hz]; rfl, hw.symm⟩)
    (fun w => by
      have h := shl_any 0 b w
      rw [show min (0 % 115792089237316195423570985008687907853269984665640564039457584007913129639936) 256 = 0 by rfl, Nat.pow_zero, Nat.mul_one, wv_none, wv_one hb1] at h
      exact h)
    (fun w => raise_zero x (by omega) w)
    (fun B w c0 c1 c2 c3 c4 c5 c6 c7 => parts_one x 7 hx0 (by omega) B w (fun j hj => by
      rcases j with _ | _ | _ | _ | _ | _ | _ | _ | j
      · exact c0
      · exact c1
      · exact c2
      · exact c3
      · exact c4
      · exact c5
      · exact c6
      · exact c7
      · omega))
    (fun S D w hne c0 c1 f0 f1 d0 => step_one x b hx hb0 hb1 S D w hne c0 c1 f0 f1 d0)
    (fun w => by
      have h := shr_any 0 x w
      rw [show min (0 % 115792089237316195423570985008687907853269984665640564039457584007913129639936) 256 = 0 by rfl, Nat.pow_zero, Nat.div_one, Nat.mod_eq_of_lt (by omega), wv_none, wv_one (by omega)] at h
      exact h)
end Go.Proofs.YthfadinocadhaaaDoor
namespace Go.Proofs.YthfadinocadhaaaDoor
open Go.RowKit

/-- A number's part. -/
def pd (x j : Nat) : Nat := x / 18446744073709551616 ^ j % 18446744073709551616
theorem pd_lt (x j : Nat) : pd x j < 18446744073709551616 := Nat.mod_lt _ (by omega)
theorem val_pd (x : Nat) : ∀ n, val (pd x) n = x % 18446744073709551616 ^ n
  | 0 => by simp [val, Nat.mod_one]
  | n + 1 => by rw [val, val_pd x n, Nat.pow_succ, Nat.mod_mul]; rfl
theorem val_one (f : Nat → Nat) : val f 1 = f 0 := by simp [val]
theorem pd_val {f : Nat → Nat} {n : Nat} (h : ∀ j, j < n → f j < 18446744073709551616) (j : Nat) (hj : j < n) : pd (val f n) j = f j := by
  obtain ⟨e, rfl⟩ : ∃ e, n = j + (1 + e) := ⟨n - j - 1, by omega⟩
  have h1 := val_lt (f := f) (n := j) (fun i hi => h i (by omega))
  have h2 := h j (by omega)
  unfold pd
  rw [val_split, val_split (fun i => f (j + i)) 1 e, val_one, Nat.add_comm, Nat.mul_add_div (Nat.pow_pos (by omega)), Nat.div_eq_of_lt h1, Nat.pow_one]
  simp only [Nat.add_zero]
  omega
theorem pd_top {x n : Nat} (h : x < 18446744073709551616 ^ n) : pd x n = 0 := by unfold pd; rw [Nat.div_eq_of_lt h]
theorem wv_row (x : Nat) : wv x = .agg #[.int .u64 (pd x 0 : Nat), .int .u64 (pd x 1 : Nat), .int .u64 (pd x 2 : Nat), .int .u64 (pd x 3 : Nat)] := by
  unfold wv pd
  simp only [Nat.pow_zero, Nat.div_one, Nat.pow_one, show 18446744073709551616 ^ 2 = 340282366920938463463374607431768211456 by rfl, show 18446744073709551616 ^ 3 = 6277101735386680763835789423207666416102355444464034512896 by rfl]
theorem dv_row (x : Nat) : dv x = .agg #[.int .u64 (pd x 0 : Nat), .int .u64 (pd x 1 : Nat), .int .u64 (pd x 2 : Nat), .int .u64 (pd x 3 : Nat), .int .u64 (pd x 4 : Nat), .int .u64 (pd x 5 : Nat), .int .u64 (pd x 6 : Nat), .int .u64 (pd x 7 : Nat)] := by
  unfold dv pd
  simp only [Nat.pow_zero, Nat.div_one, Nat.pow_one, show 18446744073709551616 ^ 2 = 340282366920938463463374607431768211456 by rfl, show 18446744073709551616 ^ 3 = 6277101735386680763835789423207666416102355444464034512896 by rfl, show 18446744073709551616 ^ 4 = 115792089237316195423570985008687907853269984665640564039457584007913129639936 by rfl, show 18446744073709551616 ^ 5 = 2135987035920910082395021706169552114602704522356652769947041607822219725780640550022962086936576 by rfl, show 18446744073709551616 ^ 6 = 39402006196394479212279040100143613805079739270465446667948293404245721771497210611414266254884915640806627990306816 by rfl, show 18446744073709551616 ^ 7 = 726838724295606890549323807888004534353641360687318060281490199180639288113397923326191050713763565560762521606266177933534601628614656 by rfl]

theorem raise_num {A s t : Nat} (h : s + t = 64) (j : Nat) : pd A (j + 1) * 2 ^ s % 18446744073709551616 + pd A j / 2 ^ t = pd (A * 2 ^ s) (j + 1) := by
  have hD := pow_split h
  have hc := cmb_lt (p := pd A (j + 1)) (q := pd A j) (pd_lt A j) h
  have hS := Nat.two_pow_pos s
  have hT := Nat.two_pow_pos t
  have e1 : A * 2 ^ s / 18446744073709551616 ^ (j + 1) = A / 18446744073709551616 ^ j / 2 ^ t := by
    rw [Nat.pow_succ, ← hD, Nat.mul_comm (2 ^ s), ← Nat.mul_assoc, Nat.mul_div_mul_right _ _ hS, Nat.div_div_eq_div_mul]
  have e2 : A / 18446744073709551616 ^ (j + 1) = A / 18446744073709551616 ^ j / 18446744073709551616 := by rw [Nat.pow_succ, Nat.div_div_eq_div_mul]
  unfold pd at hc ⊢
  rw [e2, Nat.mod_mul_mod] at hc
  rw [e1, e2, Nat.mod_mul_mod]
  generalize A / 18446744073709551616 ^ j = Y at *
  have e3 : Y / 2 ^ t = Y / 18446744073709551616 * 2 ^ s + Y % 18446744073709551616 / 2 ^ t := by
    have h1 := Nat.div_add_mod Y 18446744073709551616
    have h2 : Y / 2 ^ t = (18446744073709551616 * (Y / 18446744073709551616) + Y % 18446744073709551616) / 2 ^ t := by rw [h1]
    rw [h2]
    generalize Y % 18446744073709551616 = y
    generalize Y / 18446744073709551616 = Z
    rw [← hD, Nat.mul_comm (2 ^ s), Nat.mul_assoc, Nat.mul_add_div hT, Nat.mul_comm]
  rw [e3, Nat.add_mod, Nat.mod_eq_of_lt (a := Y % 18446744073709551616 / 2 ^ t) (Nat.lt_of_le_of_lt (Nat.div_le_self _ _) (Nat.mod_lt _ (by omega)))]
  exact (Nat.mod_eq_of_lt hc).symm
theorem raise_low (A s : Nat) : pd A 0 * 2 ^ s % 18446744073709551616 = pd (A * 2 ^ s) 0 := by
  unfold pd
  rw [Nat.pow_zero, Nat.div_one, Nat.div_one, Nat.mod_mul_mod]

theorem raise_any (A s : Nat) (hs : s < 64) (hA : A < 18446744073709551616 ^ 8) (w : World) : Calls Tryd.prog 96 #[.agg #[.int .u64 (pd A 0 : Nat), .int .u64 (pd A 1 : Nat), .int .u64 (pd A 2 : Nat), .int .u64 (pd A 3 : Nat), .int .u64 (pd A 4 : Nat), .int .u64 (pd A 5 : Nat), .int .u64 (pd A 6 : Nat), .int .u64 (pd A 7 : Nat)], .int .i64 (s : Nat)] w fun e w' => e = .returned (.agg #[.int .u64 (pd (A * 2 ^ s) 0 : Nat), .int .u64 (pd (A * 2 ^ s) 1 : Nat), .int .u64 (pd (A * 2 ^ s) 2 : Nat), .int .u64 (pd (A * 2 ^ s) 3 : Nat), .int .u64 (pd (A * 2 ^ s) 4 : Nat), .int .u64 (pd (A * 2 ^ s) 5 : Nat), .int .u64 (pd (A * 2 ^ s) 6 : Nat), .int .u64 (pd (A * 2 ^ s) 7 : Nat), .int .u64 (pd (A * 2 ^ s) 8 : Nat)]) ∧ Below w.heap.size w w' := by
  obtain ⟨t, ht⟩ : ∃ t, s + t = 64 := ⟨64 - s, by omega⟩
  have h := raise_walk (pd A 0) (pd A 1) (pd A 2) (pd A 3) (pd A 4) (pd A 5) (pd A 6) (pd A 7) s t (by omega) (by omega) (by omega) w
  have e : ∀ j, bits .or .u64 ((pd A j : Int) / 2 ^ t) (IntKind.u64.wrap ((pd A (j + 1) : Int) * 2 ^ s)) = ((pd (A * 2 ^ s) (j + 1) : Nat) : Int) := fun j => by
    rw [cmb_down (p := pd A j) (q := pd A (j + 1)) (s := t) (t := s) (pd_lt _ _) (by omega), Nat.add_comm, raise_num ht]
  have e0 : bits .or .u64 0 (IntKind.u64.wrap ((pd A 0 : Int) * 2 ^ s)) = ((pd (A * 2 ^ s) 0 : Nat) : Int) := by
    have := cmb_down (p := 0) (q := pd A 0) (s := t) (t := s) (by omega) (by omega)
    rw [Nat.zero_div, Nat.zero_add, raise_low] at this
    have h0 : (((0 : Nat) : Int) / 2 ^ t) = 0 := by simp
    rwa [h0] at this
  have e8 : (pd A 7 : Int) / 2 ^ t = ((pd (A * 2 ^ s) 8 : Nat) : Int) := by
    rw [← raise_num ht 7, pd_top hA, Nat.zero_mul, Nat.zero_mod, Nat.zero_add]; simp
  rw [e0, e 0, e 1, e 2, e 3, e 4, e 5, e 6, e8] at h
  exact h

set_option maxRecDepth 100000 in
set_option maxHeartbeats 2000000 in
theorem divide_zero (A : Nat) (w : World) : Calls Tryd.prog 74 #[.agg #[.int .u64 (pd A 0 : Nat), .int .u64 (pd A 1 : Nat), .int .u64 (pd A 2 : Nat), .int .u64 (pd A 3 : Nat), .int .u64 (pd A 4 : Nat), .int .u64 (pd A 5 : Nat), .int .u64 (pd A 6 : Nat), .int .u64 (pd A 7 : Nat)], .agg #[.int .u64 0, .int .u64 0, .int .u64 0, .int .u64 0]] w fun e w' => e = .returned (.tuple #[.agg #[.int .u64 0, .int .u64 0, .int .u64 0, .int .u64 0, .int .u64 0, .int .u64 0, .int .u64 0, .int .u64 0], .agg #[.int .u64 0, .int .u64 0, .int .u64 0, .int .u64 0]]) ∧ Below w.heap.size w w' := by
  have hp : ∀ (B : Nat) (w : World), w.cell? ⟨B, 0, none⟩ = some (.int .u64 0) → w.cell? ⟨B, 1, none⟩ = some (.int .u64 0) → w.cell? ⟨B, 2, none⟩ = some (.int .u64 0) → w.cell? ⟨B, 3, none⟩ = some (.int .u64 0) → Calls Tryd.prog 94 #[.slice (some ⟨B, 0, none⟩) 4 4] w fun e w' => e = .returned (.int .i64 0) ∧ w = w' := fun B w c0 c1 c2 c3 =>
    parts_any B 0 4 4 (fun _ => 0) (by omega) w (upto4 (P := fun j => w.cell? ⟨B, 0 + j, none⟩ = some (.int .u64 0)) c0 c1 c2 c3)
  go_enter Tryd.func74, Tryd.ntmps74
  go_wp2_with fail
  refine (hp (w.heap.size + 1) _ (by go_cell) (by go_cell) (by go_cell) (by go_cell)).mono ?_
  rintro e w' ⟨rfl, rfl⟩
  go_wp2
  go_returns
  exact ⟨rfl, by go_grown⟩

theorem top_part {B n : Nat} (hB : B ≠ 0) (h4 : B < 18446744073709551616 ^ 4) (hn : n = np (pd B) 4) : ∃ k, k ≤ 3 ∧ n = k + 1 ∧ pd B k ≠ 0 ∧ B < 18446744073709551616 ^ (k + 1) ∧ B = val (pd B) (k + 1) := by
  obtain ⟨h1, h2, h3⟩ := np_spec (pd B) 4
  have hv : val (pd B) 4 = B := by rw [val_pd, Nat.mod_eq_of_lt h4]
  have hn0 : 0 < np (pd B) 4 := by
    rcases Nat.eq_zero_or_pos (np (pd B) 4) with h | h
    · rw [h] at h2
      have := val_zero (f := pd B) 4 (fun j hj => h2 j (by omega) hj)
      omega
    · exact h
  refine ⟨np (pd B) 4 - 1, by omega, by omega, h3 hn0, ?_, ?_⟩
  · have := val_lt (f := pd B) (n := np (pd B) 4) (fun j _ => pd_lt _ _)
    rw [← val_top h1 h2, hv] at this
    rwa [show np (pd B) 4 - 1 + 1 = np (pd B) 4 by omega]
  · rw [show np (pd B) 4 - 1 + 1 = np (pd B) 4 by omega, ← val_top h1 h2, hv]
/-- The divisor, raised till it has its highest bit. -/
theorem raised {B k s : Nat} (hb : pd B k ≠ 0) (hB : B < 18446744073709551616 ^ (k + 1)) (hs : s = 64 - Lib.bitLen (pd B k)) : s < 64 ∧ s + Lib.bitLen (pd B k) = 64 ∧ B * 2 ^ s < 18446744073709551616 ^ (k + 1) ∧ 9223372036854775808 ≤ pd (B * 2 ^ s) k := by
  obtain ⟨h1, h2, h3⟩ := bitLen_bounds (pd B k) (pd_lt _ _) hb
  have h4 : Lib.bitLen (pd B k) ≤ 64 := by
    rcases Nat.lt_or_ge 64 (Lib.bitLen (pd B k)) with h | h
    · have := Nat.pow_le_pow_right (n := 2) (by omega) (show 64 ≤ Lib.bitLen (pd B k) - 1 by omega)
      have := pd_lt B k
      omega
    · exact h
  have hk : pd B k = B / 18446744073709551616 ^ k := by
    unfold pd
    rw [Nat.mod_eq_of_lt]
    rw [Nat.div_lt_iff_lt_mul (Nat.pow_pos (by omega)), Nat.mul_comm, ← Nat.pow_succ]; exact hB
  have h5 : B < 18446744073709551616 ^ k * 2 ^ Lib.bitLen (pd B k) := by
    have := Nat.div_add_mod B (18446744073709551616 ^ k)
    have hm := Nat.mod_lt B (Nat.pow_pos (n := k) (show 0 < 18446744073709551616 by omega))
    rw [← hk] at this
    have h6 : 18446744073709551616 ^ k * (pd B k + 1) ≤ 18446744073709551616 ^ k * 2 ^ Lib.bitLen (pd B k) := Nat.mul_le_mul_left _ h3
    rw [Nat.mul_add, Nat.mul_one] at h6
    generalize 18446744073709551616 ^ k * 2 ^ Lib.bitLen (pd B k) = u at *
    generalize 18446744073709551616 ^ k * pd B k = v at *
    generalize 18446744073709551616 ^ k = y at *
    omega
  have h6 : 18446744073709551616 ^ k * 2 ^ (Lib.bitLen (pd B k) - 1) ≤ B := by
    have := Nat.div_mul_le_self B (18446744073709551616 ^ k)
    rw [← hk] at this
    refine Nat.le_trans ?_ this
    rw [Nat.mul_comm]; exact Nat.mul_le_mul_right _ h2
  have e64 : s + Lib.bitLen (pd B k) = 64 := by omega
  have hp := Nat.two_pow_pos s
  have h7 : B * 2 ^ s < 18446744073709551616 ^ (k + 1) := by
    have := Nat.mul_lt_mul_of_pos_right h5 hp
    rw [Nat.mul_assoc, ← Nat.pow_add, show Lib.bitLen (pd B k) + s = 64 by omega, show (2 : Nat) ^ 64 = 18446744073709551616 by rfl, ← Nat.pow_succ] at this
    exact this
  refine ⟨by omega, e64, h7, ?_⟩
  have h8 : 18446744073709551616 ^ k * 9223372036854775808 ≤ B * 2 ^ s := by
    have := Nat.mul_le_mul_right (2 ^ s) h6
    rw [Nat.mul_assoc, ← Nat.pow_add, show Lib.bitLen (pd B k) - 1 + s = 63 by omega, show (2 : Nat) ^ 63 = 9223372036854775808 by rfl] at this
    exact this
  unfold pd
  rw [Nat.mod_eq_of_lt (by rw [Nat.div_lt_iff_lt_mul (Nat.pow_pos (by omega)), Nat.mul_comm 18446744073709551616, ← Nat.pow_succ]; exact h7), Nat.le_div_iff_mul_le (Nat.pow_pos (by omega)), Nat.mul_comm]
  exact h8

theorem divide_row (A B : Nat) (hA : A < 18446744073709551616 ^ 8) (hB : B ≠ 0) (h4 : B < 18446744073709551616 ^ 4) (w : World) : Calls Tryd.prog 74 #[.agg #[.int .u64 (pd A 0 : Nat), .int .u64 (pd A 1 : Nat), .int .u64 (pd A 2 : Nat), .int .u64 (pd A 3 : Nat), .int .u64 (pd A 4 : Nat), .int .u64 (pd A 5 : Nat), .int .u64 (pd A 6 : Nat), .int .u64 (pd A 7 : Nat)], .agg #[.int .u64 (pd B 0 : Nat), .int .u64 (pd B 1 : Nat), .int .u64 (pd B 2 : Nat), .int .u64 (pd B 3 : Nat)]] w fun e w' => e = .returned (.tuple #[dv (A / B), wv (A % B)]) ∧ Below w.heap.size w w' := by
  obtain ⟨n, hn⟩ : ∃ n, n = np (pd B) 4 := ⟨_, rfl⟩
  obtain ⟨m, hm⟩ : ∃ m, m = np (pd A) 8 := ⟨_, rfl⟩
  obtain ⟨k, hk, hnk, hbk, hBk, hBv⟩ := top_part hB h4 hn
  obtain ⟨s, hs⟩ : ∃ s, s = 64 - Lib.bitLen (pd B k) := ⟨_, rfl⟩
  obtain ⟨s1, s2, s3, s4⟩ := raised hbk hBk hs
  obtain ⟨m1, m2, -⟩ := np_spec (pd A) 8
  rw [← hm] at m1 m2
  have vA : val (pd A) 8 = A := by rw [val_pd, Nat.mod_eq_of_lt hA]
  have vA2 : val (pd A) m = A := by rw [← val_top m1 m2, vA]
  have k4 : 18446744073709551616 ^ (k + 1) ≤ 18446744073709551616 ^ 4 := Nat.pow_le_pow_right (by omega) (by omega)
  have s5 : B * 2 ^ s < 18446744073709551616 ^ 4 := Nat.lt_of_lt_of_le s3 k4
  have vD : val (pd (B * 2 ^ s)) n = B * 2 ^ s := by rw [hnk, val_pd, Nat.mod_eq_of_lt s3]
  have hA9 : A * 2 ^ s < 18446744073709551616 ^ 9 := by
    have h1 : 2 ^ s ≤ 2 ^ 64 := Nat.pow_le_pow_right (by omega) (by omega)
    have h2 : A * 2 ^ s ≤ A * 18446744073709551616 := Nat.mul_le_mul_left _ h1
    have h3 : A * 18446744073709551616 < 18446744073709551616 ^ 8 * 18446744073709551616 := Nat.mul_lt_mul_of_pos_right hA (by omega)
    rw [← Nat.pow_succ] at h3
    exact Nat.lt_of_le_of_lt h2 h3
  have vR : val (pd (A * 2 ^ s)) 9 = A * 2 ^ s := by rw [val_pd, Nat.mod_eq_of_lt hA9]
  have hP4 : 18446744073709551616 ^ 4 = 115792089237316195423570985008687907853269984665640564039457584007913129639936 := by rfl
  have hw := divide_walk (pd A) (pd B) (pd (B * 2 ^ s)) (pd (A * 2 ^ s)) (fun cur => pd (val cur 4 / 2 ^ s)) n k m s hk hnk m1 s1 w
    (fun B' w c0 c1 c2 c3 => by
      have := parts_any B' 0 4 4 (pd B) (by omega) w (upto4 (P := fun j => w.cell? ⟨B', 0 + j, none⟩ = some (.int .u64 (pd B j : Nat))) c0 c1 c2 c3)
      rw [← hn] at this; exact this)
    (fun w => (Tryd.bits_LeadingZeros64 (pd B k : Nat) w (by omega) (by have := pd_lt B k; omega)).mono fun e w' ⟨he, hw⟩ => ⟨by rw [he, Int.toNat_natCast, show (64 : Int) - (Lib.bitLen (pd B k) : Int) = ((s : Nat) : Int) by omega], hw.symm⟩)
    (fun w => by
      have h := shl_any s B w
      rw [show min (s % 115792089237316195423570985008687907853269984665640564039457584007913129639936) 256 = s by omega, wv_one (x := s) (by omega), wv_row B, wv_row (B * 2 ^ s)] at h
      exact h)
    (fun w => raise_any A s s1 hA w)
    (fun B' w c0 c1 c2 c3 c4 c5 c6 c7 => by
      have := parts_any B' 0 8 8 (pd A) (by omega) w (upto8 (P := fun j => w.cell? ⟨B', 0 + j, none⟩ = some (.int .u64 (pd A j : Nat))) c0 c1 c2 c3 c4 c5 c6 c7)
      rw [← hm] at this; exact this)
    (fun cur hc w => by
      have hv := val_lt (f := cur) (n := 4) (fun j hj => hc j (by omega))
      have h := shr_any s (val cur 4) w
      rw [show min (s % 115792089237316195423570985008687907853269984665640564039457584007913129639936) 256 = s by omega, wv_one (x := s) (by omega), wv_row (val cur 4), wv_row (_ / _), Nat.mod_eq_of_lt (by rw [← hP4]; exact hv)] at h
      rw [pd_val (n := 4) (fun j hj => hc j (by omega)) 0 (by omega), pd_val (n := 4) (fun j hj => hc j (by omega)) 1 (by omega), pd_val (n := 4) (fun j hj => hc j (by omega)) 2 (by omega), pd_val (n := 4) (fun j hj => hc j (by omega)) 3 (by omega)] at h
      exact h)
    (fun j _ => pd_lt _ _) (fun j _ => pd_lt _ _) s4
    (by
      have := div_start (a := pd A) (b := pd B) (m := m) (n := n) (s := s) (c := m + 1 - n) (fun j _ => pd_lt _ _) (by rw [hnk]; exact hbk) (by omega) (by omega)
      rw [vA2, hnk, ← hBv, ← hnk] at this
      rw [vR, vD]; exact this)
  refine hw.mono ?_
  rintro e w' ⟨cur, q, rfl, hc, hq, h1, h2, hb⟩
  rw [vD] at h1 h2
  rw [vR] at h1
  obtain ⟨h5, h6⟩ := div_end rfl h1 h2
  have h7 : val cur 9 = val cur 4 := val_top (by omega) (fun j h8 h9 => val_ztop (Nat.lt_trans h2 s5) j h8 h9)
  refine ⟨?_, hb⟩
  rw [wv_row, ← h6, h7, dv_row, ← h5]
  rw [pd_val hq 0 (by omega), pd_val hq 1 (by omega), pd_val hq 2 (by omega), pd_val hq 3 (by omega), pd_val hq 4 (by omega), pd_val hq 5 (by omega), pd_val hq 6 (by omega), pd_val hq 7 (by omega)]

-- WHAT divide COMES TO.
theorem divide_any (A B : Nat) (hA : A < 13407807929942597099574024998205846127479365820592393377723561443721764030073546976801874298166903427690031858186486050853753882811946569946433649006084096) (hB : B ≠ 0) (h4 : B < 115792089237316195423570985008687907853269984665640564039457584007913129639936) (w : World) : Calls Tryd.prog 74 #[dv A, wv B] w fun e w' => e = .returned (.tuple #[dv (A / B), wv (A % B)]) ∧ Below w.heap.size w w' := by
  rw [dv_row A, wv_row B]
  exact divide_row A B (by rw [show 18446744073709551616 ^ 8 = 13407807929942597099574024998205846127479365820592393377723561443721764030073546976801874298166903427690031858186486050853753882811946569946433649006084096 by rfl]; exact hA) hB (by rw [show 18446744073709551616 ^ 4 = 115792089237316195423570985008687907853269984665640564039457584007913129639936 by rfl]; exact h4) w
theorem divide_none (A : Nat) (w : World) : Calls Tryd.prog 74 #[dv A, wv 0] w fun e w' => e = .returned (.tuple #[dv 0, wv 0]) ∧ Below w.heap.size w w' := by
  rw [dv_row A]
  exact divide_zero A w
end Go.Proofs.YthfadinocadhaaaDoor
namespace Go.Proofs.YthfadinocadhaaaDoor
open Go.RowKit

/-- What an operation's slot holds. -/
def slotVal (a : Act) (o : Oper) : Value := match o.dst with
  | some d => a.tmps.getD d undef
  | none => undef
def isDst (l : List Oper) (t : Nat) : Bool := l.any fun o => o.dst == some t
/-- Every operation's value put into its slot. -/
def putAll (f : Oper → Value) : List Oper → Act → Act
  | [], a => a
  | o :: l, a => putAll f l (a.put o.dst (f o))

theorem put_size (a : Act) (d : Option Tmp) (v : Value) : (a.put d v).tmps.size = a.tmps.size := by
  cases d <;> simp [Act.put]
theorem put_defers (a : Act) (d : Option Tmp) (v : Value) : (a.put d v).defers = a.defers := by
  cases d <;> rfl
theorem put_other (a : Act) (d : Option Tmp) (v : Value) (t : Nat) (h : d ≠ some t) : (a.put d v).tmps.getD t undef = a.tmps.getD t undef := by
  cases d with
  | none => rfl
  | some d =>
    have : d ≠ t := fun e => h (by rw [e])
    simp [Act.put, Array.getElem?_setIfInBounds_ne this]
theorem put_same (a : Act) (d : Nat) (v : Value) (h : d < a.tmps.size) : (a.put (some d) v).tmps.getD d undef = v := by
  simp [Act.put, h]

theorem putAll_size (f : Oper → Value) : ∀ (l : List Oper) (a : Act), (putAll f l a).tmps.size = a.tmps.size
  | [], _ => rfl
  | o :: l, a => by rw [putAll, putAll_size f l, put_size]
theorem putAll_defers (f : Oper → Value) : ∀ (l : List Oper) (a : Act), (putAll f l a).defers = a.defers
  | [], _ => rfl
  | o :: l, a => by rw [putAll, putAll_defers f l, put_defers]
theorem putAll_at (b : Act) : ∀ (l : List Oper) (a : Act) (t : Nat), t < a.tmps.size → (isDst l t = false → a.tmps.getD t undef = b.tmps.getD t undef) → (putAll (slotVal b) l a).tmps.getD t undef = b.tmps.getD t undef
  | [], a, t, _, h => h rfl
  | o :: l, a, t, ht, h => by
    rw [putAll]
    refine putAll_at b l _ t (by rw [put_size]; exact ht) (fun hl => ?_)
    by_cases e : o.dst = some t
    · rw [e, put_same _ _ _ ht]
      unfold slotVal
      rw [e]
    · rw [put_other _ _ _ _ e]
      exact h (by simp only [isDst, List.any_cons, Bool.or_eq_false_iff]; exact ⟨by simpa using e, hl⟩)
theorem put_back {a a0 : Act} {l : List Oper} (hs : a.tmps.size = a0.tmps.size) (hd : a.defers = a0.defers) (hk : ∀ t, isDst l t = false → a.tmps.getD t undef = a0.tmps.getD t undef) : a = putAll (slotVal a) l a0 := by
  have h1 := putAll_size (slotVal a) l a0
  have h2 := putAll_defers (slotVal a) l a0
  have h3 := fun t ht => putAll_at a l a0 t ht (fun h => (hk t h).symm)
  generalize putAll (slotVal a) l a0 = b at *
  obtain ⟨ta, da⟩ := a
  obtain ⟨tb, db⟩ := b
  simp only at *
  have : ta = tb := by
    apply Array.ext (by omega)
    intro i hi hj
    have := h3 i (by omega)
    simp [hi, hj] at this
    exact this.symm
  rw [this, hd, h2]

section
variable {P : Program} {ops : Array Oper} {Q : Exit → Act → World → Prop} {C : World → Prop} {φ : Nat → Value → World → Prop} {R : World → World → Prop} {a0 : Act}

/-- What is known where an operation comes up: the slots that the region doesn't write; those that it waits for. -/
def Known (ops : Array Oper) (φ : Nat → Value → World → Prop) (a0 : Act) (o : Oper) (a : Act) (w : World) : Prop :=
  (∀ t, isDst ops.toList t = false → a.tmps.getD t undef = a0.tmps.getD t undef) ∧ (∀ e ∈ o.after, Region.binds .any e = true → ∀ oj, ops[e.on]? = some oj → φ e.on (slotVal a oj) w)
/-- What one operation must do. -/
def Step (P : Program) (ops : Array Oper) (Q : Exit → Act → World → Prop) (C : World → Prop) (φ : Nat → Value → World → Prop) (R : World → World → Prop) (k : Nat) (o : Oper) (a : Act) (w : World) : Prop :=
  if Region.wanted o (yielded ops a.tmps) then o.wp P a w (fun a' w' => ∃ v, a' = a.put o.dst v ∧ C w' ∧ φ k v w' ∧ R w w' ∧ (o.dst = none → v = undef)) Q else φ k undef w
def Steps (P : Program) (ops : Array Oper) (Q : Exit → Act → World → Prop) (C : World → Prop) (φ : Nat → Value → World → Prop) (R : World → World → Prop) (a0 : Act) : Nat → List Oper → Prop
  | _, [] => True
  | k, o :: l => (∀ a w, C w → Known ops φ a0 o a w → Step P ops Q C φ R k o a w) ∧ Steps P ops Q C φ R a0 (k + 1) l
theorem Steps.at_ : ∀ {l : List Oper} {k : Nat}, Steps P ops Q C φ R a0 k l → ∀ (i : Nat) (o : Oper), l[i]? = some o → ∀ a w, C w → Known ops φ a0 o a w → Step P ops Q C φ R (k + i) o a w
  | [], _, _, i, o, hi => by simp at hi
  | o :: l, k, h, 0, o', hi => by simp at hi; subst hi; exact h.1
  | o :: l, k, h, i + 1, o', hi => by
    have := Steps.at_ h.2 i o' (by simpa using hi)
    rwa [show k + 1 + i = k + (i + 1) by omega] at this

def distinctB : List Oper → Bool
  | [] => true
  | o :: l => (match o.dst with | some d => !(isDst l d) | none => true) && distinctB l
theorem distinct_spec : ∀ {l : List Oper}, distinctB l = true → ∀ (i j : Nat) (oi oj : Oper) (d : Nat), l[i]? = some oi → l[j]? = some oj → i ≠ j → oi.dst = some d → oj.dst ≠ some d
  | [], _, i, _, _, _, _, hi, _, _, _ => by simp at hi
  | o :: l, h, i, j, oi, oj, d, hi, hj, hne, hd => by
    simp only [distinctB, Bool.and_eq_true] at h
    have out : ∀ (k : Nat) (ok : Oper) (e : Nat), l[k]? = some ok → o.dst = some e → ok.dst ≠ some e := fun k ok e hk he hok => by
      have h1 := h.1
      rw [he] at h1
      simp only [Bool.not_eq_true', isDst, List.any_eq_false] at h1
      exact h1 ok (List.mem_of_getElem? hk) (by simp [hok])
    match i, j, hi, hj with
    | 0, 0, _, _ => exact absurd rfl hne
    | 0, j + 1, hi, hj => simp at hi; subst hi; exact out j oj d (by simpa using hj) hd
    | i + 1, 0, hi, hj => simp at hj; subst hj; exact fun he => out i oi d (by simpa using hi) he hd
    | i + 1, j + 1, hi, hj => exact distinct_spec h.2 i j oi oj d (by simpa using hi) (by simpa using hj) (by omega) hd

def lexicalB (ops : Array Oper) : Bool := (List.range ops.size).all fun i => match ops[i]? with
  | some o => o.after.all fun e => decide (e.on < i)
  | none => true
def inB (ops : Array Oper) (n : Nat) : Bool := ops.toList.all fun o => match o.dst with
  | some d => decide (d < n)
  | none => true

theorem wpAny_inv (hdist : distinctB ops.toList = true) (hlex : lexicalB ops = true) (hin : inB ops a0.tmps.size = true)
    (hφ : ∀ i v w w', R w w' → φ i v w → φ i v w') (hst : Steps P ops Q C φ R a0 0 ops.toList)
    (hQ : ∀ (f : Oper → Value) w, C w → (∀ i o, ops[i]? = some o → φ i (f o) w) → Q .normal (putAll f ops.toList a0) w) :
    ∀ (fuel : Nat) (listed : Array Bool) (a : Act) (w : World), listed.size = ops.size → listed.toList.count false ≤ fuel → C w → a.tmps.size = a0.tmps.size → a.defers = a0.defers →
      (∀ t, isDst ops.toList t = false → a.tmps.getD t undef = a0.tmps.getD t undef) → (∀ i o, listed.getD i false = true → ops[i]? = some o → φ i (slotVal a o) w) → wpAny P .any ops Q fuel listed a w := by
  have done : ∀ (listed : Array Bool) (a : Act) (w : World), (∀ i, i < ops.size → listed.getD i false = true) → C w → a.tmps.size = a0.tmps.size → a.defers = a0.defers →
      (∀ t, isDst ops.toList t = false → a.tmps.getD t undef = a0.tmps.getD t undef) → (∀ i o, listed.getD i false = true → ops[i]? = some o → φ i (slotVal a o) w) → Q .normal a w := by
    intro listed a w hall hC hs hd hk hp
    rw [put_back hs hd hk]
    exact hQ _ w hC (fun i o ho => hp i o (hall i (Array.getElem?_eq_some_iff.1 ho).1) ho)
  intro fuel
  induction fuel with
  | zero =>
    intro listed a w hsz hc hC hs hd hk hp
    have hno : false ∉ listed.toList := List.count_eq_zero.1 (by omega)
    have hall : ∀ i, i < ops.size → listed.getD i false = true := fun i hi => by
      have hlt : i < listed.size := by omega
      have hm : listed[i] ∈ listed.toList := by simp
      simp only [Array.getD_eq_getD_getElem?, hlt, Array.getElem?_eq_getElem, Option.getD_some]
      cases h : listed[i] with
      | true => rfl
      | false => rw [h] at hm; exact absurd hm hno
    refine ⟨?_, done listed a w hall hC hs hd hk hp⟩
    rw [List.eq_nil_iff_forall_not_mem]
    intro j hj
    obtain ⟨h0, o, ho, -⟩ := mem_ready.1 hj
    have hlt := (Array.getElem?_eq_some_iff.1 ho).1
    have h1 := hall j hlt
    simp [show j < listed.size by omega] at h0 h1
    rw [h0] at h1
    cases h1
  | succ fuel ih =>
    intro listed a w hsz hc hC hs hd hk hp
    refine ⟨fun hr => ?_, fun i hi => ?_⟩
    · refine done listed a w ?_ hC hs hd hk hp
      -- the least that isn't listed would be ready
      intro i
      induction i using Nat.strongRecOn with
      | _ i ihi =>
        intro hi
        cases h : listed.getD i false with
        | true => rfl
        | false =>
          have ho : ops[i]? = some ops[i] := Array.getElem?_eq_getElem hi
          have : i ∈ Region.ready .any ops listed := mem_ready.2 ⟨by simpa [show i < listed.size by omega] using h, ops[i], ho, fun e he _ => by
            have hl := hlex
            unfold lexicalB at hl
            rw [List.all_eq_true] at hl
            have := hl i (by simpa using hi)
            rw [ho] at this
            simp only [Array.all_eq_true_iff_forall_mem, decide_eq_true_eq] at this
            have hlt := this e he
            exact ihi e.on hlt (by omega)⟩
          rw [hr] at this
          cases this
    · obtain ⟨h0, o, ho, hall⟩ := mem_ready.1 hi
      have hlt : i < ops.size := (Array.getElem?_eq_some_iff.1 ho).1
      have hl' : ops.toList[i]? = some o := by simpa using ho
      have hstep := hst.at_ i o hl' a w hC ⟨hk, fun e he hb oj hj => hp e.on oj (hall e he hb) hj⟩
      rw [Nat.zero_add] at hstep
      have go : ∀ (v : Value) (w' : World), C w' → φ i v w' → (∀ j u, φ j u w → φ j u w') → (o.dst = none → v = undef) → wpAny P .any ops Q fuel (listed.setIfInBounds i true) (a.put o.dst v) w' := by
        intro v w' hC' hv hm hu
        refine ih _ _ _ (by simpa using hsz) ?_ hC' (by rw [put_size]; exact hs) (by rw [put_defers]; exact hd) ?_ ?_
        · have hil : i < listed.size := by omega
          have e0 : listed[i] = false := by simpa [hil] using h0
          rw [Array.toList_setIfInBounds, List.count_set (by simpa using hil)]
          have : listed.toList[i]'(by simpa using hil) = false := by simpa using e0
          simp only [this]
          simp
          have hpos : 0 < listed.toList.count false := List.count_pos_iff.2 (by rw [← e0]; simp)
          simp at hpos
          simp at hc
          omega
        · intro t ht
          have hne : o.dst ≠ some t := fun e => by
            simp only [isDst, List.any_eq_false] at ht
            exact ht o (List.mem_of_getElem? hl') (by simp [e])
          rw [put_other _ _ _ _ hne]
          exact hk t ht
        · intro j oj hj hoj
          by_cases e : i = j
          · subst e
            have : oj = o := Option.some.inj (hoj.symm.trans ho)
            subst this
            have : slotVal (a.put oj.dst v) oj = v := by
              unfold slotVal
              cases hd' : oj.dst with
              | none => exact (hu hd').symm
              | some d =>
                have hin' := hin
                unfold inB at hin'
                rw [List.all_eq_true] at hin'
                have hdl : d < a0.tmps.size := by
                  have h := hin' oj (List.mem_of_getElem? hl')
                  rw [hd'] at h
                  exact of_decide_eq_true h
                exact put_same _ _ _ (by rw [hs]; exact hdl)
            rw [this]; exact hv
          · rw [getD_set_ne false e] at hj
            have : slotVal (a.put o.dst v) oj = slotVal a oj := by
              unfold slotVal
              cases hd' : oj.dst with
              | none => rfl
              | some d =>
                exact put_other _ _ _ _ (fun he => distinct_spec hdist i j o oj d hl' (by simpa using hoj) e he hd')
            rw [this]
            exact hm _ _ (hp j oj hj hoj)
      unfold wpOp
      rw [ho]
      simp only
      unfold Step at hstep
      split
      · rename_i hw
        rw [if_pos hw] at hstep
        refine .inl (Oper.wp_mono ?_ hstep)
        rintro a' w' ⟨v, rfl, hC', hv, hR, hu⟩
        exact go v w' hC' hv (fun j u h => hφ j u w w' hR h) hu
      · rename_i hw
        rw [if_neg hw] at hstep
        exact go undef w hC hstep (fun j u h => h) (fun _ => rfl)

/-- THE LAW. -/
theorem region_inv {id : Nat} {l : List Oper} {w : World} (C : World → Prop) (φ : Nat → Value → World → Prop) (R : World → World → Prop) (hm : P.follows .mixedOrders = true) (hB : (distinctB l && lexicalB l.toArray && inB l.toArray a0.tmps.size) = true) (hC : C w.drew)
    (hφ : ∀ i v w w', R w w' → φ i v w → φ i v w') (hst : Steps P l.toArray Q C φ R a0 0 l)
    (hQ : ∀ (f : Oper → Value) w, C w → (∀ i o, l[i]? = some o → φ i (f o) w) → Q .normal (putAll f l a0) w) : (Code.region id l.toArray true).wp P Q a0 w := by
  simp only [Bool.and_eq_true] at hB
  refine wp_region_any hm (wpAny_inv (C := C) (φ := φ) (R := R) (a0 := a0) hB.1.1 hB.1.2 hB.2 hφ hst (fun f w hC h => hQ f w hC (fun i o ho => h i o (by simpa using ho))) _ _ _ w.drew (by simp) (by simp) hC rfl rfl (fun _ _ => rfl) ?_)
  intro i o hi
  simp at hi
  rcases Nat.lt_or_ge i l.length with h | h
  · simp [h] at hi
  · simp [Nat.not_lt.2 h] at hi

/-! What each kind of operation must do. -/
theorem st_val {k : Nat} {o : Oper} {a : Act} {w : World} (v : Value) (hw : Region.wanted o (yielded ops a.tmps) = true) (hd : o.dst = none → v = undef) (hr : (execOp a.eval o).run P w = .ok (.value v) w) (hC : C w) (hv : φ k v w) (hR : R w w) : Step P ops Q C φ R k o a w := by
  unfold Step
  rw [if_pos hw]
  unfold Oper.wp
  rw [hr]
  exact ⟨v, rfl, hC, hv, hR, hd⟩
theorem st_skip {k : Nat} {o : Oper} {a : Act} {w : World} (hw : Region.wanted o (yielded ops a.tmps) = false) (hv : φ k undef w) : Step P ops Q C φ R k o a w := by
  unfold Step
  rw [if_neg (by rw [hw]; exact Bool.false_ne_true)]
  exact hv
theorem st_load {k : Nat} {o : Oper} {a : Act} {w : World} (T : TypeId) (x : Operand) (p v : Value) (ho : o.op = .load T x) (hw : Region.wanted o (yielded ops a.tmps) = true) (hd : o.dst = none → v = undef) (hp : a.eval x = p)
    (hr : (Instr.loadAt T p).run P w = .ok v w) (hC : C w) (hv : φ k v w) (hR : R w w) : Step P ops Q C φ R k o a w :=
  st_val v hw hd (by
    unfold execOp
    rw [ho]
    simp only [hp, Sem.run_bind, hr, Result.andThen_ok, Sem.run_pure]) hC hv hR
theorem st_call {k : Nat} {o : Oper} {a : Act} {w : World} (f : FuncId) (args : Array Value) (hw : Region.wanted o (yielded ops a.tmps) = true) (hd : ∃ d, o.dst = some d) (he : (execOp a.eval o).run P w = .ok (.enter f args) w)
    (hc : Calls P f args w fun e w' => ∃ v, e = .returned v ∧ C w' ∧ φ k v w' ∧ R w w') : Step P ops Q C φ R k o a w := by
  unfold Step
  rw [if_pos hw]
  unfold Oper.wp
  rw [he]
  refine Calls.mono hc ?_
  rintro e w' ⟨v, rfl, h1, h2, h3⟩
  exact ⟨v, rfl, h1, h2, h3, fun h => by obtain ⟨d, hd⟩ := hd; rw [hd] at h; cases h⟩
theorem st_store {k : Nat} {o : Oper} {a : Act} {w w' : World} (hw : Region.wanted o (yielded ops a.tmps) = true) (hr : (execOp a.eval o).run P w = .ok .skip w') (hC : C w') (hv : φ k undef w') (hR : R w w') : Step P ops Q C φ R k o a w := by
  unfold Step
  rw [if_pos hw]
  unfold Oper.wp
  rw [hr]
  exact ⟨undef, rfl, hC, hv, hR, fun _ => rfl⟩
end
end Go.Proofs.YthfadinocadhaaaDoor
namespace Go.Proofs.YthfadinocadhaaaDoor
open Go.RowKit

/-- Part p of a word. -/
def pN (x p : Nat) : Nat := x % 115792089237316195423570985008687907853269984665640564039457584007913129639936 / 2 ^ (64 * p) % 18446744073709551616
theorem pN_le (x p : Nat) : pN x p < 18446744073709551616 := by unfold pN; omega
/-- The byte of a word at n, 0 the highest. -/
def bt (x n : Nat) : Nat := x % 115792089237316195423570985008687907853269984665640564039457584007913129639936 / 256 ^ (31 - n) % 256
theorem bt_le (x n : Nat) : bt x n ≤ 255 := by unfold bt; omega

theorem cut_mod (Y s : Nat) (hs : s ≤ 56) : Y % 18446744073709551616 / 2 ^ s % 256 = Y / 2 ^ s % 256 := by
  have e : 18446744073709551616 = 2 ^ s * 2 ^ (64 - s) := by rw [← Nat.pow_add, show s + (64 - s) = 64 by omega]
  rw [e, Nat.mod_mul_right_div_self, Nat.mod_mod_of_dvd]
  have : (256 : Nat) = 2 ^ 8 := by rfl
  rw [this]
  exact Nat.pow_dvd_pow 2 (by omega)

theorem bt_of (x k p s : Nat) (_hk : k < 32) (hp : (31 - k) / 8 = p) (hs : (31 - k) % 8 * 8 = s) : pN x p / 2 ^ s % 256 = bt x k := by
  subst hp hs
  unfold pN bt
  rw [cut_mod _ _ (by omega), Nat.div_div_eq_div_mul, ← Nat.pow_add, show (256 : Nat) = 2 ^ 8 by rfl, ← Nat.pow_mul, show 64 * ((31 - k) / 8) + (31 - k) % 8 * 8 = 8 * (31 - k) by omega]

/-- The row of bytes, of which k have been written. -/
def brow (f : Nat → Nat) (k : Nat) : Array Value := ((List.range 32).map fun j => Value.int .u8 ((if j < k then f j else 0 : Nat) : Int)).toArray
theorem brow_size (f : Nat → Nat) (k : Nat) : (brow f k).size = 32 := by simp [brow]
theorem brow_at (f : Nat → Nat) (k j : Nat) (h : j < 32) : (brow f k)[j]? = some (.int .u8 ((if j < k then f j else 0 : Nat) : Int)) := by
  simp [brow, h]
theorem brow_set (f : Nat → Nat) (k : Nat) (h : k < 32) : (brow f k).setIfInBounds k (.int .u8 (f k : Nat)) = brow f (k + 1) := by
  apply Array.ext
  · simp [brow]
  · intro i h1 h2
    have hi : i < 32 := by simpa [brow] using h2
    by_cases e : i = k
    · subst e; simp [brow]
    · by_cases l : i < k
      · simp [brow, l, show i < k + 1 by omega, Ne.symm e]
      · simp [brow, l, show ¬ i < k + 1 by omega, Ne.symm e]
theorem brow_nought (f : Nat → Nat) : brow f 0 = #[.int .u8 0, .int .u8 0, .int .u8 0, .int .u8 0, .int .u8 0, .int .u8 0, .int .u8 0, .int .u8 0, .int .u8 0, .int .u8 0, .int .u8 0, .int .u8 0, .int .u8 0, .int .u8 0, .int .u8 0, .int .u8 0, .int .u8 0, .int .u8 0, .int .u8 0, .int .u8 0, .int .u8 0, .int .u8 0, .int .u8 0, .int .u8 0, .int .u8 0, .int .u8 0, .int .u8 0, .int .u8 0, .int .u8 0, .int .u8 0, .int .u8 0, .int .u8 0] := by kernel_rfl
theorem brow_full (f : Nat → Nat) : brow f 32 = #[.int .u8 (f 0 : Nat), .int .u8 (f 1 : Nat), .int .u8 (f 2 : Nat), .int .u8 (f 3 : Nat), .int .u8 (f 4 : Nat), .int .u8 (f 5 : Nat), .int .u8 (f 6 : Nat), .int .u8 (f 7 : Nat), .int .u8 (f 8 : Nat), .int .u8 (f 9 : Nat), .int .u8 (f 10 : Nat), .int .u8 (f 11 : Nat), .int .u8 (f 12 : Nat), .int .u8 (f 13 : Nat), .int .u8 (f 14 : Nat), .int .u8 (f 15 : Nat), .int .u8 (f 16 : Nat), .int .u8 (f 17 : Nat), .int .u8 (f 18 : Nat), .int .u8 (f 19 : Nat), .int .u8 (f 20 : Nat), .int .u8 (f 21 : Nat), .int .u8 (f 22 : Nat), .int .u8 (f 23 : Nat), .int .u8 (f 24 : Nat), .int .u8 (f 25 : Nat), .int .u8 (f 26 : Nat), .int .u8 (f 27 : Nat), .int .u8 (f 28 : Nat), .int .u8 (f 29 : Nat), .int .u8 (f 30 : Nat), .int .u8 (f 31 : Nat)] := by kernel_rfl
theorem brow_one (f : Nat → Nat) (k : Nat) : (brow f k).all (·.oneCell') = true := by
  simp [brow, Value.oneCell']
theorem heap3 (w : World) (A B C : Obj) : (((w.alloc A).alloc B).alloc C).heap[w.heap.size]? = some A ∧ (((w.alloc A).alloc B).alloc C).heap[w.heap.size + 1]? = some B ∧ (((w.alloc A).alloc B).alloc C).heap[w.heap.size + 1 + 1]? = some C := by
  show (((w.heap.push A).push B).push C)[w.heap.size]? = _ ∧ (((w.heap.push A).push B).push C)[w.heap.size + 1]? = _ ∧ (((w.heap.push A).push B).push C)[w.heap.size + 1 + 1]? = _
  refine ⟨?_, ?_, ?_⟩
  · simp [Array.getElem?_push]
    omega
  · have h : w.heap.size + 1 ≠ (((w.heap.push A).push B)).size := by simp
    rw [Array.getElem?_push, if_neg h, Array.getElem?_push, if_pos (by simp)]
  · rw [Array.getElem?_push, if_pos (by simp)]

theorem wpList_store_row {P : Program} {ops : Array Oper} {rest : List Oper} {o : Oper} {a : Act} {w : World} {Q : Exit → Act → World → Prop} (hgd : o.guard = none) (ty : TypeId) (x y : Operand) (ho : o.op = .store ty x y)
    (g : Nat) (cells : Array Value) (hx : a.eval x = .pointer (some ⟨g, 0, none⟩)) (hy : a.eval y = .agg cells)
    (t : TypeId) (old : Array Value) (hg : w.heap[g]? = some (.cells old t (0, 0))) (hi : (P.info? ty).map (·.size) = some cells.size)
    (hold : old.size = cells.size) (h1 : cells.all (·.oneCell') = true)
    (h : wpList P ops Q rest (a.put o.dst undef) (w.setRow g cells)) : wpList P ops Q (o :: rest) a w :=
  wpList_plain hgd fun _ hK => wp_store_row ty x y ho g cells hx hy t old hg hi hold h1 (hK _ _ h)

theorem below_heap {B : Nat} {w w' : World} (h : Below B w w') {k : Nat} (hk : k < B) : w'.heap[k]? = w.heap[k]? := h.block k hk

set_option maxRecDepth 100000 in
set_option maxHeartbeats 1000000 in
theorem bytes_walk (x a0 a1 a2 a3 : Nat) (hp : ∀ p, p < 4 → (#[Value.int .u64 a0, .int .u64 a1, .int .u64 a2, .int .u64 a3] : Array Value)[p]? = some (.int .u64 (pN x p : Nat))) (w : World) :
    Calls Tryd.prog 50 #[.agg #[.int .u64 a0, .int .u64 a1, .int .u64 a2, .int .u64 a3]] w fun e w' => e = .returned (.agg (brow (bt x) 32)) ∧ Below w.heap.size w w' := by
  have HP := Lib.hid hp; clear hp
  go_enter Tryd.func50, Tryd.ntmps50
  go_wp2
  go_loopw [6] (fun i wr => ∃ k : Nat, k ≤ 32 ∧ i = .int .i64 k ∧ Hid (wr.heap[w.heap.size]? = some (.cells #[Value.int .u64 a0, .int .u64 a1, .int .u64 a2, .int .u64 a3] 24 (0, 0)) ∧ wr.heap[w.heap.size + 1]? = some (.cells (brow (bt x) 0) 36 (0, 0)) ∧ wr.heap[w.heap.size + 1 + 1]? = some (.cells (brow (bt x) k) 36 (0, 0)) ∧ Below w.heap.size w wr))
    (fun i _ => 32 - (intOf i).toNat)
  case atStart =>
    refine ⟨0, by omega, rfl, Lib.hid ⟨(heap3 _ _ _ _).1, ?_, ?_, by go_grown⟩⟩
    · rw [brow_nought]; exact (heap3 _ _ _ _).2.1
    · rw [brow_nought]; exact (heap3 _ _ _ _).2.2
  case round =>
    obtain ⟨k, hk, rfl, H⟩ := hrel
    have hk0 : (0 : Int) ≤ k := by omega
    have hk1 : (k : Int) ≤ 32 := by omega
    by_cases hlt : k < 32
    · obtain ⟨q, hq⟩ : ∃ q : Nat, 31 - (k : Int) = (q : Int) := ⟨31 - k, by omega⟩
      obtain ⟨p, hp⟩ : ∃ p : Nat, (q : Int) / 8 = (p : Int) := ⟨q / 8, by omega⟩
      obtain ⟨s, hs⟩ : ∃ s : Nat, (q : Int) % 8 * 8 = (s : Int) := ⟨q % 8 * 8, by omega⟩
      have hq0 : (0 : Int) ≤ q := by omega
      have hq1 : (q : Int) ≤ 31 := by omega
      have hp0 : (0 : Int) ≤ p := by omega
      have hp1 : (p : Int) < 4 := by omega
      have hs0 : (0 : Int) ≤ s := by omega
      have hs1 : (s : Int) < 64 := by omega
      have ca : wr.cell? ⟨w.heap.size, p, none⟩ = some (.int .u64 (pN x p : Nat)) := (cell_of_row wr _ p _ _ _ H.out.1).trans (HP.out p (by omega))
      have cb : wr.cell? ⟨w.heap.size + 1 + 1, k, none⟩ = some (.int .u8 0) := by
        rw [cell_of_row wr _ k _ _ _ H.out.2.2.1, brow_at _ _ _ hlt, if_neg (by omega)]; rfl
      have cf : wr.frozen? ⟨w.heap.size + 1 + 1, k, none⟩ = false := frozen_of_row wr _ k _ _ H.out.2.2.1
      have hv : ((pN x p : Nat) : Int) / 2 ^ s % 256 = ((bt x k : Nat) : Int) := by
        rw [← bt_of x k p s hlt (by omega) (by omega)]; simp
      have hpl := pN_le x p
      have HV := Lib.hid hv; clear hv
      go_wp2
      go_roundw
      case rel =>
        refine ⟨k + 1, by omega, by go_num, Lib.hid ⟨(heap_setCell_other _ _ _ _ (by simp; omega)).trans H.out.1, (heap_setCell_other _ _ _ _ (by simp)).trans H.out.2.1, ?_, H.out.2.2.2.setCell (by simp; omega) _⟩⟩
        rw [heap_setCell_same _ _ _ _ _ _ H.out.2.2.1, HV.out, brow_set _ _ hlt]
      case measure => simp [intOf]; omega
    · obtain rfl : k = 32 := by omega
      have hi : (Tryd.prog.info? 36).map (·.size) = some (brow (bt x) 32).size := by rw [brow_size]; kernel_rfl
      have HI := Lib.hid hi; clear hi
      go_wp2_with (first | (refine wpList_load_row rfl 36 _ rfl (w.heap.size + 1 + 1) rfl 36 _ (0, 0) _ H.out.2.2.1 Tryd.underlying36 rfl HI.out ?_) | (refine wpList_store_row rfl 36 _ _ rfl (w.heap.size + 1) (brow (bt x) 32) rfl rfl 36 (brow (bt x) 0) H.out.2.1 HI.out (by rw [brow_size, brow_size]) (brow_one _ _) ?_))
      refine bodyPost_ret (v := .agg (brow (bt x) 32)) (results_cell_row (p := 2) rfl _ _ (w.heap.size + 1) 36 _ (0, 0) _ rfl (setRow_heap _ _ _ _ _ _ H.out.2.1) Tryd.underlying36 rfl HI.out) rfl ⟨rfl, below_setRow H.out.2.2.2 (by omega) _⟩

-- WHAT Bytes COMES TO.
theorem bytes_any (x : Nat) (w : World) :
    Calls Tryd.prog 50 #[wv x] w fun e w' => e = .returned (.agg (brow (bt x) 32)) ∧ Below w.heap.size w w' := by
  refine bytes_walk x _ _ _ _ (fun p hp => ?_) w
  have h : p = 0 ∨ p = 1 ∨ p = 2 ∨ p = 3 := by omega
  rcases h with rfl | rfl | rfl | rfl
  · simp [pN]
  · simp [pN]; omega
  · simp [pN]; omega
  · simp [pN]; omega

theorem index32_0 (f : Nat → Nat) (w : World) : (Instr.index 36 (.agg #[.int .u8 (f 0 : Nat), .int .u8 (f 1 : Nat), .int .u8 (f 2 : Nat), .int .u8 (f 3 : Nat), .int .u8 (f 4 : Nat), .int .u8 (f 5 : Nat), .int .u8 (f 6 : Nat), .int .u8 (f 7 : Nat), .int .u8 (f 8 : Nat), .int .u8 (f 9 : Nat), .int .u8 (f 10 : Nat), .int .u8 (f 11 : Nat), .int .u8 (f 12 : Nat), .int .u8 (f 13 : Nat), .int .u8 (f 14 : Nat), .int .u8 (f 15 : Nat), .int .u8 (f 16 : Nat), .int .u8 (f 17 : Nat), .int .u8 (f 18 : Nat), .int .u8 (f 19 : Nat), .int .u8 (f 20 : Nat), .int .u8 (f 21 : Nat), .int .u8 (f 22 : Nat), .int .u8 (f 23 : Nat), .int .u8 (f 24 : Nat), .int .u8 (f 25 : Nat), .int .u8 (f 26 : Nat), .int .u8 (f 27 : Nat), .int .u8 (f 28 : Nat), .int .u8 (f 29 : Nat), .int .u8 (f 30 : Nat), .int .u8 (f 31 : Nat)]) (.int .u64 (0 : Nat))).run Tryd.prog w = .ok (.int .u8 (f 0 : Nat)) w := by kernel_rfl
theorem index32_1 (f : Nat → Nat) (w : World) : (Instr.index 36 (.agg #[.int .u8 (f 0 : Nat), .int .u8 (f 1 : Nat), .int .u8 (f 2 : Nat), .int .u8 (f 3 : Nat), .int .u8 (f 4 : Nat), .int .u8 (f 5 : Nat), .int .u8 (f 6 : Nat), .int .u8 (f 7 : Nat), .int .u8 (f 8 : Nat), .int .u8 (f 9 : Nat), .int .u8 (f 10 : Nat), .int .u8 (f 11 : Nat), .int .u8 (f 12 : Nat), .int .u8 (f 13 : Nat), .int .u8 (f 14 : Nat), .int .u8 (f 15 : Nat), .int .u8 (f 16 : Nat), .int .u8 (f 17 : Nat), .int .u8 (f 18 : Nat), .int .u8 (f 19 : Nat), .int .u8 (f 20 : Nat), .int .u8 (f 21 : Nat), .int .u8 (f 22 : Nat), .int .u8 (f 23 : Nat), .int .u8 (f 24 : Nat), .int .u8 (f 25 : Nat), .int .u8 (f 26 : Nat), .int .u8 (f 27 : Nat), .int .u8 (f 28 : Nat), .int .u8 (f 29 : Nat), .int .u8 (f 30 : Nat), .int .u8 (f 31 : Nat)]) (.int .u64 (1 : Nat))).run Tryd.prog w = .ok (.int .u8 (f 1 : Nat)) w := by kernel_rfl
theorem index32_2 (f : Nat → Nat) (w : World) : (Instr.index 36 (.agg #[.int .u8 (f 0 : Nat), .int .u8 (f 1 : Nat), .int .u8 (f 2 : Nat), .int .u8 (f 3 : Nat), .int .u8 (f 4 : Nat), .int .u8 (f 5 : Nat), .int .u8 (f 6 : Nat), .int .u8 (f 7 : Nat), .int .u8 (f 8 : Nat), .int .u8 (f 9 : Nat), .int .u8 (f 10 : Nat), .int .u8 (f 11 : Nat), .int .u8 (f 12 : Nat), .int .u8 (f 13 : Nat), .int .u8 (f 14 : Nat), .int .u8 (f 15 : Nat), .int .u8 (f 16 : Nat), .int .u8 (f 17 : Nat), .int .u8 (f 18 : Nat), .int .u8 (f 19 : Nat), .int .u8 (f 20 : Nat), .int .u8 (f 21 : Nat), .int .u8 (f 22 : Nat), .int .u8 (f 23 : Nat), .int .u8 (f 24 : Nat), .int .u8 (f 25 : Nat), .int .u8 (f 26 : Nat), .int .u8 (f 27 : Nat), .int .u8 (f 28 : Nat), .int .u8 (f 29 : Nat), .int .u8 (f 30 : Nat), .int .u8 (f 31 : Nat)]) (.int .u64 (2 : Nat))).run Tryd.prog w = .ok (.int .u8 (f 2 : Nat)) w := by kernel_rfl
theorem index32_3 (f : Nat → Nat) (w : World) : (Instr.index 36 (.agg #[.int .u8 (f 0 : Nat), .int .u8 (f 1 : Nat), .int .u8 (f 2 : Nat), .int .u8 (f 3 : Nat), .int .u8 (f 4 : Nat), .int .u8 (f 5 : Nat), .int .u8 (f 6 : Nat), .int .u8 (f 7 : Nat), .int .u8 (f 8 : Nat), .int .u8 (f 9 : Nat), .int .u8 (f 10 : Nat), .int .u8 (f 11 : Nat), .int .u8 (f 12 : Nat), .int .u8 (f 13 : Nat), .int .u8 (f 14 : Nat), .int .u8 (f 15 : Nat), .int .u8 (f 16 : Nat), .int .u8 (f 17 : Nat), .int .u8 (f 18 : Nat), .int .u8 (f 19 : Nat), .int .u8 (f 20 : Nat), .int .u8 (f 21 : Nat), .int .u8 (f 22 : Nat), .int .u8 (f 23 : Nat), .int .u8 (f 24 : Nat), .int .u8 (f 25 : Nat), .int .u8 (f 26 : Nat), .int .u8 (f 27 : Nat), .int .u8 (f 28 : Nat), .int .u8 (f 29 : Nat), .int .u8 (f 30 : Nat), .int .u8 (f 31 : Nat)]) (.int .u64 (3 : Nat))).run Tryd.prog w = .ok (.int .u8 (f 3 : Nat)) w := by kernel_rfl
theorem index32_4 (f : Nat → Nat) (w : World) : (Instr.index 36 (.agg #[.int .u8 (f 0 : Nat), .int .u8 (f 1 : Nat), .int .u8 (f 2 : Nat), .int .u8 (f 3 : Nat), .int .u8 (f 4 : Nat), .int .u8 (f 5 : Nat), .int .u8 (f 6 : Nat), .int .u8 (f 7 : Nat), .int .u8 (f 8 : Nat), .int .u8 (f 9 : Nat), .int .u8 (f 10 : Nat), .int .u8 (f 11 : Nat), .int .u8 (f 12 : Nat), .int .u8 (f 13 : Nat), .int .u8 (f 14 : Nat), .int .u8 (f 15 : Nat), .int .u8 (f 16 : Nat), .int .u8 (f 17 : Nat), .int .u8 (f 18 : Nat), .int .u8 (f 19 : Nat), .int .u8 (f 20 : Nat), .int .u8 (f 21 : Nat), .int .u8 (f 22 : Nat), .int .u8 (f 23 : Nat), .int .u8 (f 24 : Nat), .int .u8 (f 25 : Nat), .int .u8 (f 26 : Nat), .int .u8 (f 27 : Nat), .int .u8 (f 28 : Nat), .int .u8 (f 29 : Nat), .int .u8 (f 30 : Nat), .int .u8 (f 31 : Nat)]) (.int .u64 (4 : Nat))).run Tryd.prog w = .ok (.int .u8 (f 4 : Nat)) w := by kernel_rfl
theorem index32_5 (f : Nat → Nat) (w : World) : (Instr.index 36 (.agg #[.int .u8 (f 0 : Nat), .int .u8 (f 1 : Nat), .int .u8 (f 2 : Nat), .int .u8 (f 3 : Nat), .int .u8 (f 4 : Nat), .int .u8 (f 5 : Nat), .int .u8 (f 6 : Nat), .int .u8 (f 7 : Nat), .int .u8 (f 8 : Nat), .int .u8 (f 9 : Nat), .int .u8 (f 10 : Nat), .int .u8 (f 11 : Nat), .int .u8 (f 12 : Nat), .int .u8 (f 13 : Nat), .int .u8 (f 14 : Nat), .int .u8 (f 15 : Nat), .int .u8 (f 16 : Nat), .int .u8 (f 17 : Nat), .int .u8 (f 18 : Nat), .int .u8 (f 19 : Nat), .int .u8 (f 20 : Nat), .int .u8 (f 21 : Nat), .int .u8 (f 22 : Nat), .int .u8 (f 23 : Nat), .int .u8 (f 24 : Nat), .int .u8 (f 25 : Nat), .int .u8 (f 26 : Nat), .int .u8 (f 27 : Nat), .int .u8 (f 28 : Nat), .int .u8 (f 29 : Nat), .int .u8 (f 30 : Nat), .int .u8 (f 31 : Nat)]) (.int .u64 (5 : Nat))).run Tryd.prog w = .ok (.int .u8 (f 5 : Nat)) w := by kernel_rfl
theorem index32_6 (f : Nat → Nat) (w : World) : (Instr.index 36 (.agg #[.int .u8 (f 0 : Nat), .int .u8 (f 1 : Nat), .int .u8 (f 2 : Nat), .int .u8 (f 3 : Nat), .int .u8 (f 4 : Nat), .int .u8 (f 5 : Nat), .int .u8 (f 6 : Nat), .int .u8 (f 7 : Nat), .int .u8 (f 8 : Nat), .int .u8 (f 9 : Nat), .int .u8 (f 10 : Nat), .int .u8 (f 11 : Nat), .int .u8 (f 12 : Nat), .int .u8 (f 13 : Nat), .int .u8 (f 14 : Nat), .int .u8 (f 15 : Nat), .int .u8 (f 16 : Nat), .int .u8 (f 17 : Nat), .int .u8 (f 18 : Nat), .int .u8 (f 19 : Nat), .int .u8 (f 20 : Nat), .int .u8 (f 21 : Nat), .int .u8 (f 22 : Nat), .int .u8 (f 23 : Nat), .int .u8 (f 24 : Nat), .int .u8 (f 25 : Nat), .int .u8 (f 26 : Nat), .int .u8 (f 27 : Nat), .int .u8 (f 28 : Nat), .int .u8 (f 29 : Nat), .int .u8 (f 30 : Nat), .int .u8 (f 31 : Nat)]) (.int .u64 (6 : Nat))).run Tryd.prog w = .ok (.int .u8 (f 6 : Nat)) w := by kernel_rfl
theorem index32_7 (f : Nat → Nat) (w : World) : (Instr.index 36 (.agg #[.int .u8 (f 0 : Nat), .int .u8 (f 1 : Nat), .int .u8 (f 2 : Nat), .int .u8 (f 3 : Nat), .int .u8 (f 4 : Nat), .int .u8 (f 5 : Nat), .int .u8 (f 6 : Nat), .int .u8 (f 7 : Nat), .int .u8 (f 8 : Nat), .int .u8 (f 9 : Nat), .int .u8 (f 10 : Nat), .int .u8 (f 11 : Nat), .int .u8 (f 12 : Nat), .int .u8 (f 13 : Nat), .int .u8 (f 14 : Nat), .int .u8 (f 15 : Nat), .int .u8 (f 16 : Nat), .int .u8 (f 17 : Nat), .int .u8 (f 18 : Nat), .int .u8 (f 19 : Nat), .int .u8 (f 20 : Nat), .int .u8 (f 21 : Nat), .int .u8 (f 22 : Nat), .int .u8 (f 23 : Nat), .int .u8 (f 24 : Nat), .int .u8 (f 25 : Nat), .int .u8 (f 26 : Nat), .int .u8 (f 27 : Nat), .int .u8 (f 28 : Nat), .int .u8 (f 29 : Nat), .int .u8 (f 30 : Nat), .int .u8 (f 31 : Nat)]) (.int .u64 (7 : Nat))).run Tryd.prog w = .ok (.int .u8 (f 7 : Nat)) w := by kernel_rfl
theorem index32_8 (f : Nat → Nat) (w : World) : (Instr.index 36 (.agg #[.int .u8 (f 0 : Nat), .int .u8 (f 1 : Nat), .int .u8 (f 2 : Nat), .int .u8 (f 3 : Nat), .int .u8 (f 4 : Nat), .int .u8 (f 5 : Nat), .int .u8 (f 6 : Nat), .int .u8 (f 7 : Nat), .int .u8 (f 8 : Nat), .int .u8 (f 9 : Nat), .int .u8 (f 10 : Nat), .int .u8 (f 11 : Nat), .int .u8 (f 12 : Nat), .int .u8 (f 13 : Nat), .int .u8 (f 14 : Nat), .int .u8 (f 15 : Nat), .int .u8 (f 16 : Nat), .int .u8 (f 17 : Nat), .int .u8 (f 18 : Nat), .int .u8 (f 19 : Nat), .int .u8 (f 20 : Nat), .int .u8 (f 21 : Nat), .int .u8 (f 22 : Nat), .int .u8 (f 23 : Nat), .int .u8 (f 24 : Nat), .int .u8 (f 25 : Nat), .int .u8 (f 26 : Nat), .int .u8 (f 27 : Nat), .int .u8 (f 28 : Nat), .int .u8 (f 29 : Nat), .int .u8 (f 30 : Nat), .int .u8 (f 31 : Nat)]) (.int .u64 (8 : Nat))).run Tryd.prog w = .ok (.int .u8 (f 8 : Nat)) w := by kernel_rfl
theorem index32_9 (f : Nat → Nat) (w : World) : (Instr.index 36 (.agg #[.int .u8 (f 0 : Nat), .int .u8 (f 1 : Nat), .int .u8 (f 2 : Nat), .int .u8 (f 3 : Nat), .int .u8 (f 4 : Nat), .int .u8 (f 5 : Nat), .int .u8 (f 6 : Nat), .int .u8 (f 7 : Nat), .int .u8 (f 8 : Nat), .int .u8 (f 9 : Nat), .int .u8 (f 10 : Nat), .int .u8 (f 11 : Nat), .int .u8 (f 12 : Nat), .int .u8 (f 13 : Nat), .int .u8 (f 14 : Nat), .int .u8 (f 15 : Nat), .int .u8 (f 16 : Nat), .int .u8 (f 17 : Nat), .int .u8 (f 18 : Nat), .int .u8 (f 19 : Nat), .int .u8 (f 20 : Nat), .int .u8 (f 21 : Nat), .int .u8 (f 22 : Nat), .int .u8 (f 23 : Nat), .int .u8 (f 24 : Nat), .int .u8 (f 25 : Nat), .int .u8 (f 26 : Nat), .int .u8 (f 27 : Nat), .int .u8 (f 28 : Nat), .int .u8 (f 29 : Nat), .int .u8 (f 30 : Nat), .int .u8 (f 31 : Nat)]) (.int .u64 (9 : Nat))).run Tryd.prog w = .ok (.int .u8 (f 9 : Nat)) w := by kernel_rfl
theorem index32_10 (f : Nat → Nat) (w : World) : (Instr.index 36 (.agg #[.int .u8 (f 0 : Nat), .int .u8 (f 1 : Nat), .int .u8 (f 2 : Nat), .int .u8 (f 3 : Nat), .int .u8 (f 4 : Nat), .int .u8 (f 5 : Nat), .int .u8 (f 6 : Nat), .int .u8 (f 7 : Nat), .int .u8 (f 8 : Nat), .int .u8 (f 9 : Nat), .int .u8 (f 10 : Nat), .int .u8 (f 11 : Nat), .int .u8 (f 12 : Nat), .int .u8 (f 13 : Nat), .int .u8 (f 14 : Nat), .int .u8 (f 15 : Nat), .int .u8 (f 16 : Nat), .int .u8 (f 17 : Nat), .int .u8 (f 18 : Nat), .int .u8 (f 19 : Nat), .int .u8 (f 20 : Nat), .int .u8 (f 21 : Nat), .int .u8 (f 22 : Nat), .int .u8 (f 23 : Nat), .int .u8 (f 24 : Nat), .int .u8 (f 25 : Nat), .int .u8 (f 26 : Nat), .int .u8 (f 27 : Nat), .int .u8 (f 28 : Nat), .int .u8 (f 29 : Nat), .int .u8 (f 30 : Nat), .int .u8 (f 31 : Nat)]) (.int .u64 (10 : Nat))).run Tryd.prog w = .ok (.int .u8 (f 10 : Nat)) w := by kernel_rfl
theorem index32_11 (f : Nat → Nat) (w : World) : (Instr.index 36 (.agg #[.int .u8 (f 0 : Nat), .int .u8 (f 1 : Nat), .int .u8 (f 2 : Nat), .int .u8 (f 3 : Nat), .int .u8 (f 4 : Nat), .int .u8 (f 5 : Nat), .int .u8 (f 6 : Nat), .int .u8 (f 7 : Nat), .int .u8 (f 8 : Nat), .int .u8 (f 9 : Nat), .int .u8 (f 10 : Nat), .int .u8 (f 11 : Nat), .int .u8 (f 12 : Nat), .int .u8 (f 13 : Nat), .int .u8 (f 14 : Nat), .int .u8 (f 15 : Nat), .int .u8 (f 16 : Nat), .int .u8 (f 17 : Nat), .int .u8 (f 18 : Nat), .int .u8 (f 19 : Nat), .int .u8 (f 20 : Nat), .int .u8 (f 21 : Nat), .int .u8 (f 22 : Nat), .int .u8 (f 23 : Nat), .int .u8 (f 24 : Nat), .int .u8 (f 25 : Nat), .int .u8 (f 26 : Nat), .int .u8 (f 27 : Nat), .int .u8 (f 28 : Nat), .int .u8 (f 29 : Nat), .int .u8 (f 30 : Nat), .int .u8 (f 31 : Nat)]) (.int .u64 (11 : Nat))).run Tryd.prog w = .ok (.int .u8 (f 11 : Nat)) w := by kernel_rfl
theorem index32_12 (f : Nat → Nat) (w : World) : (Instr.index 36 (.agg #[.int .u8 (f 0 : Nat), .int .u8 (f 1 : Nat), .int .u8 (f 2 : Nat), .int .u8 (f 3 : Nat), .int .u8 (f 4 : Nat), .int .u8 (f 5 : Nat), .int .u8 (f 6 : Nat), .int .u8 (f 7 : Nat), .int .u8 (f 8 : Nat), .int .u8 (f 9 : Nat), .int .u8 (f 10 : Nat), .int .u8 (f 11 : Nat), .int .u8 (f 12 : Nat), .int .u8 (f 13 : Nat), .int .u8 (f 14 : Nat), .int .u8 (f 15 : Nat), .int .u8 (f 16 : Nat), .int .u8 (f 17 : Nat), .int .u8 (f 18 : Nat), .int .u8 (f 19 : Nat), .int .u8 (f 20 : Nat), .int .u8 (f 21 : Nat), .int .u8 (f 22 : Nat), .int .u8 (f 23 : Nat), .int .u8 (f 24 : Nat), .int .u8 (f 25 : Nat), .int .u8 (f 26 : Nat), .int .u8 (f 27 : Nat), .int .u8 (f 28 : Nat), .int .u8 (f 29 : Nat), .int .u8 (f 30 : Nat), .int .u8 (f 31 : Nat)]) (.int .u64 (12 : Nat))).run Tryd.prog w = .ok (.int .u8 (f 12 : Nat)) w := by kernel_rfl
theorem index32_13 (f : Nat → Nat) (w : World) : (Instr.index 36 (.agg #[.int .u8 (f 0 : Nat), .int .u8 (f 1 : Nat), .int .u8 (f 2 : Nat), .int .u8 (f 3 : Nat), .int .u8 (f 4 : Nat), .int .u8 (f 5 : Nat), .int .u8 (f 6 : Nat), .int .u8 (f 7 : Nat), .int .u8 (f 8 : Nat), .int .u8 (f 9 : Nat), .int .u8 (f 10 : Nat), .int .u8 (f 11 : Nat), .int .u8 (f 12 : Nat), .int .u8 (f 13 : Nat), .int .u8 (f 14 : Nat), .int .u8 (f 15 : Nat), .int .u8 (f 16 : Nat), .int .u8 (f 17 : Nat), .int .u8 (f 18 : Nat), .int .u8 (f 19 : Nat), .int .u8 (f 20 : Nat), .int .u8 (f 21 : Nat), .int .u8 (f 22 : Nat), .int .u8 (f 23 : Nat), .int .u8 (f 24 : Nat), .int .u8 (f 25 : Nat), .int .u8 (f 26 : Nat), .int .u8 (f 27 : Nat), .int .u8 (f 28 : Nat), .int .u8 (f 29 : Nat), .int .u8 (f 30 : Nat), .int .u8 (f 31 : Nat)]) (.int .u64 (13 : Nat))).run Tryd.prog w = .ok (.int .u8 (f 13 : Nat)) w := by kernel_rfl
theorem index32_14 (f : Nat → Nat) (w : World) : (Instr.index 36 (.agg #[.int .u8 (f 0 : Nat), .int .u8 (f 1 : Nat), .int .u8 (f 2 : Nat), .int .u8 (f 3 : Nat), .int .u8 (f 4 : Nat), .int .u8 (f 5 : Nat), .int .u8 (f 6 : Nat), .int .u8 (f 7 : Nat), .int .u8 (f 8 : Nat), .int .u8 (f 9 : Nat), .int .u8 (f 10 : Nat), .int .u8 (f 11 : Nat), .int .u8 (f 12 : Nat), .int .u8 (f 13 : Nat), .int .u8 (f 14 : Nat), .int .u8 (f 15 : Nat), .int .u8 (f 16 : Nat), .int .u8 (f 17 : Nat), .int .u8 (f 18 : Nat), .int .u8 (f 19 : Nat), .int .u8 (f 20 : Nat), .int .u8 (f 21 : Nat), .int .u8 (f 22 : Nat), .int .u8 (f 23 : Nat), .int .u8 (f 24 : Nat), .int .u8 (f 25 : Nat), .int .u8 (f 26 : Nat), .int .u8 (f 27 : Nat), .int .u8 (f 28 : Nat), .int .u8 (f 29 : Nat), .int .u8 (f 30 : Nat), .int .u8 (f 31 : Nat)]) (.int .u64 (14 : Nat))).run Tryd.prog w = .ok (.int .u8 (f 14 : Nat)) w := by kernel_rfl
theorem index32_15 (f : Nat → Nat) (w : World) : (Instr.index 36 (.agg #[.int .u8 (f 0 : Nat), .int .u8 (f 1 : Nat), .int .u8 (f 2 : Nat), .int .u8 (f 3 : Nat), .int .u8 (f 4 : Nat), .int .u8 (f 5 : Nat), .int .u8 (f 6 : Nat), .int .u8 (f 7 : Nat), .int .u8 (f 8 : Nat), .int .u8 (f 9 : Nat), .int .u8 (f 10 : Nat), .int .u8 (f 11 : Nat), .int .u8 (f 12 : Nat), .int .u8 (f 13 : Nat), .int .u8 (f 14 : Nat), .int .u8 (f 15 : Nat), .int .u8 (f 16 : Nat), .int .u8 (f 17 : Nat), .int .u8 (f 18 : Nat), .int .u8 (f 19 : Nat), .int .u8 (f 20 : Nat), .int .u8 (f 21 : Nat), .int .u8 (f 22 : Nat), .int .u8 (f 23 : Nat), .int .u8 (f 24 : Nat), .int .u8 (f 25 : Nat), .int .u8 (f 26 : Nat), .int .u8 (f 27 : Nat), .int .u8 (f 28 : Nat), .int .u8 (f 29 : Nat), .int .u8 (f 30 : Nat), .int .u8 (f 31 : Nat)]) (.int .u64 (15 : Nat))).run Tryd.prog w = .ok (.int .u8 (f 15 : Nat)) w := by kernel_rfl
theorem index32_16 (f : Nat → Nat) (w : World) : (Instr.index 36 (.agg #[.int .u8 (f 0 : Nat), .int .u8 (f 1 : Nat), .int .u8 (f 2 : Nat), .int .u8 (f 3 : Nat), .int .u8 (f 4 : Nat), .int .u8 (f 5 : Nat), .int .u8 (f 6 : Nat), .int .u8 (f 7 : Nat), .int .u8 (f 8 : Nat), .int .u8 (f 9 : Nat), .int .u8 (f 10 : Nat), .int .u8 (f 11 : Nat), .int .u8 (f 12 : Nat), .int .u8 (f 13 : Nat), .int .u8 (f 14 : Nat), .int .u8 (f 15 : Nat), .int .u8 (f 16 : Nat), .int .u8 (f 17 : Nat), .int .u8 (f 18 : Nat), .int .u8 (f 19 : Nat), .int .u8 (f 20 : Nat), .int .u8 (f 21 : Nat), .int .u8 (f 22 : Nat), .int .u8 (f 23 : Nat), .int .u8 (f 24 : Nat), .int .u8 (f 25 : Nat), .int .u8 (f 26 : Nat), .int .u8 (f 27 : Nat), .int .u8 (f 28 : Nat), .int .u8 (f 29 : Nat), .int .u8 (f 30 : Nat), .int .u8 (f 31 : Nat)]) (.int .u64 (16 : Nat))).run Tryd.prog w = .ok (.int .u8 (f 16 : Nat)) w := by kernel_rfl
theorem index32_17 (f : Nat → Nat) (w : World) : (Instr.index 36 (.agg #[.int .u8 (f 0 : Nat), .int .u8 (f 1 : Nat), .int .u8 (f 2 : Nat), .int .u8 (f 3 : Nat), .int .u8 (f 4 : Nat), .int .u8 (f 5 : Nat), .int .u8 (f 6 : Nat), .int .u8 (f 7 : Nat), .int .u8 (f 8 : Nat), .int .u8 (f 9 : Nat), .int .u8 (f 10 : Nat), .int .u8 (f 11 : Nat), .int .u8 (f 12 : Nat), .int .u8 (f 13 : Nat), .int .u8 (f 14 : Nat), .int .u8 (f 15 : Nat), .int .u8 (f 16 : Nat), .int .u8 (f 17 : Nat), .int .u8 (f 18 : Nat), .int .u8 (f 19 : Nat), .int .u8 (f 20 : Nat), .int .u8 (f 21 : Nat), .int .u8 (f 22 : Nat), .int .u8 (f 23 : Nat), .int .u8 (f 24 : Nat), .int .u8 (f 25 : Nat), .int .u8 (f 26 : Nat), .int .u8 (f 27 : Nat), .int .u8 (f 28 : Nat), .int .u8 (f 29 : Nat), .int .u8 (f 30 : Nat), .int .u8 (f 31 : Nat)]) (.int .u64 (17 : Nat))).run Tryd.prog w = .ok (.int .u8 (f 17 : Nat)) w := by kernel_rfl
theorem index32_18 (f : Nat → Nat) (w : World) : (Instr.index 36 (.agg #[.int .u8 (f 0 : Nat), .int .u8 (f 1 : Nat), .int .u8 (f 2 : Nat), .int .u8 (f 3 : Nat), .int .u8 (f 4 : Nat), .int .u8 (f 5 : Nat), .int .u8 (f 6 : Nat), .int .u8 (f 7 : Nat), .int .u8 (f 8 : Nat), .int .u8 (f 9 : Nat), .int .u8 (f 10 : Nat), .int .u8 (f 11 : Nat), .int .u8 (f 12 : Nat), .int .u8 (f 13 : Nat), .int .u8 (f 14 : Nat), .int .u8 (f 15 : Nat), .int .u8 (f 16 : Nat), .int .u8 (f 17 : Nat), .int .u8 (f 18 : Nat), .int .u8 (f 19 : Nat), .int .u8 (f 20 : Nat), .int .u8 (f 21 : Nat), .int .u8 (f 22 : Nat), .int .u8 (f 23 : Nat), .int .u8 (f 24 : Nat), .int .u8 (f 25 : Nat), .int .u8 (f 26 : Nat), .int .u8 (f 27 : Nat), .int .u8 (f 28 : Nat), .int .u8 (f 29 : Nat), .int .u8 (f 30 : Nat), .int .u8 (f 31 : Nat)]) (.int .u64 (18 : Nat))).run Tryd.prog w = .ok (.int .u8 (f 18 : Nat)) w := by kernel_rfl
theorem index32_19 (f : Nat → Nat) (w : World) : (Instr.index 36 (.agg #[.int .u8 (f 0 : Nat), .int .u8 (f 1 : Nat), .int .u8 (f 2 : Nat), .int .u8 (f 3 : Nat), .int .u8 (f 4 : Nat), .int .u8 (f 5 : Nat), .int .u8 (f 6 : Nat), .int .u8 (f 7 : Nat), .int .u8 (f 8 : Nat), .int .u8 (f 9 : Nat), .int .u8 (f 10 : Nat), .int .u8 (f 11 : Nat), .int .u8 (f 12 : Nat), .int .u8 (f 13 : Nat), .int .u8 (f 14 : Nat), .int .u8 (f 15 : Nat), .int .u8 (f 16 : Nat), .int .u8 (f 17 : Nat), .int .u8 (f 18 : Nat), .int .u8 (f 19 : Nat), .int .u8 (f 20 : Nat), .int .u8 (f 21 : Nat), .int .u8 (f 22 : Nat), .int .u8 (f 23 : Nat), .int .u8 (f 24 : Nat), .int .u8 (f 25 : Nat), .int .u8 (f 26 : Nat), .int .u8 (f 27 : Nat), .int .u8 (f 28 : Nat), .int .u8 (f 29 : Nat), .int .u8 (f 30 : Nat), .int .u8 (f 31 : Nat)]) (.int .u64 (19 : Nat))).run Tryd.prog w = .ok (.int .u8 (f 19 : Nat)) w := by kernel_rfl
theorem index32_20 (f : Nat → Nat) (w : World) : (Instr.index 36 (.agg #[.int .u8 (f 0 : Nat), .int .u8 (f 1 : Nat), .int .u8 (f 2 : Nat), .int .u8 (f 3 : Nat), .int .u8 (f 4 : Nat), .int .u8 (f 5 : Nat), .int .u8 (f 6 : Nat), .int .u8 (f 7 : Nat), .int .u8 (f 8 : Nat), .int .u8 (f 9 : Nat), .int .u8 (f 10 : Nat), .int .u8 (f 11 : Nat), .int .u8 (f 12 : Nat), .int .u8 (f 13 : Nat), .int .u8 (f 14 : Nat), .int .u8 (f 15 : Nat), .int .u8 (f 16 : Nat), .int .u8 (f 17 : Nat), .int .u8 (f 18 : Nat), .int .u8 (f 19 : Nat), .int .u8 (f 20 : Nat), .int .u8 (f 21 : Nat), .int .u8 (f 22 : Nat), .int .u8 (f 23 : Nat), .int .u8 (f 24 : Nat), .int .u8 (f 25 : Nat), .int .u8 (f 26 : Nat), .int .u8 (f 27 : Nat), .int .u8 (f 28 : Nat), .int .u8 (f 29 : Nat), .int .u8 (f 30 : Nat), .int .u8 (f 31 : Nat)]) (.int .u64 (20 : Nat))).run Tryd.prog w = .ok (.int .u8 (f 20 : Nat)) w := by kernel_rfl
theorem index32_21 (f : Nat → Nat) (w : World) : (Instr.index 36 (.agg #[.int .u8 (f 0 : Nat), .int .u8 (f 1 : Nat), .int .u8 (f 2 : Nat), .int .u8 (f 3 : Nat), .int .u8 (f 4 : Nat), .int .u8 (f 5 : Nat), .int .u8 (f 6 : Nat), .int .u8 (f 7 : Nat), .int .u8 (f 8 : Nat), .int .u8 (f 9 : Nat), .int .u8 (f 10 : Nat), .int .u8 (f 11 : Nat), .int .u8 (f 12 : Nat), .int .u8 (f 13 : Nat), .int .u8 (f 14 : Nat), .int .u8 (f 15 : Nat), .int .u8 (f 16 : Nat), .int .u8 (f 17 : Nat), .int .u8 (f 18 : Nat), .int .u8 (f 19 : Nat), .int .u8 (f 20 : Nat), .int .u8 (f 21 : Nat), .int .u8 (f 22 : Nat), .int .u8 (f 23 : Nat), .int .u8 (f 24 : Nat), .int .u8 (f 25 : Nat), .int .u8 (f 26 : Nat), .int .u8 (f 27 : Nat), .int .u8 (f 28 : Nat), .int .u8 (f 29 : Nat), .int .u8 (f 30 : Nat), .int .u8 (f 31 : Nat)]) (.int .u64 (21 : Nat))).run Tryd.prog w = .ok (.int .u8 (f 21 : Nat)) w := by kernel_rfl
theorem index32_22 (f : Nat → Nat) (w : World) : (Instr.index 36 (.agg #[.int .u8 (f 0 : Nat), .int .u8 (f 1 : Nat), .int .u8 (f 2 : Nat), .int .u8 (f 3 : Nat), .int .u8 (f 4 : Nat), .int .u8 (f 5 : Nat), .int .u8 (f 6 : Nat), .int .u8 (f 7 : Nat), .int .u8 (f 8 : Nat), .int .u8 (f 9 : Nat), .int .u8 (f 10 : Nat), .int .u8 (f 11 : Nat), .int .u8 (f 12 : Nat), .int .u8 (f 13 : Nat), .int .u8 (f 14 : Nat), .int .u8 (f 15 : Nat), .int .u8 (f 16 : Nat), .int .u8 (f 17 : Nat), .int .u8 (f 18 : Nat), .int .u8 (f 19 : Nat), .int .u8 (f 20 : Nat), .int .u8 (f 21 : Nat), .int .u8 (f 22 : Nat), .int .u8 (f 23 : Nat), .int .u8 (f 24 : Nat), .int .u8 (f 25 : Nat), .int .u8 (f 26 : Nat), .int .u8 (f 27 : Nat), .int .u8 (f 28 : Nat), .int .u8 (f 29 : Nat), .int .u8 (f 30 : Nat), .int .u8 (f 31 : Nat)]) (.int .u64 (22 : Nat))).run Tryd.prog w = .ok (.int .u8 (f 22 : Nat)) w := by kernel_rfl
theorem index32_23 (f : Nat → Nat) (w : World) : (Instr.index 36 (.agg #[.int .u8 (f 0 : Nat), .int .u8 (f 1 : Nat), .int .u8 (f 2 : Nat), .int .u8 (f 3 : Nat), .int .u8 (f 4 : Nat), .int .u8 (f 5 : Nat), .int .u8 (f 6 : Nat), .int .u8 (f 7 : Nat), .int .u8 (f 8 : Nat), .int .u8 (f 9 : Nat), .int .u8 (f 10 : Nat), .int .u8 (f 11 : Nat), .int .u8 (f 12 : Nat), .int .u8 (f 13 : Nat), .int .u8 (f 14 : Nat), .int .u8 (f 15 : Nat), .int .u8 (f 16 : Nat), .int .u8 (f 17 : Nat), .int .u8 (f 18 : Nat), .int .u8 (f 19 : Nat), .int .u8 (f 20 : Nat), .int .u8 (f 21 : Nat), .int .u8 (f 22 : Nat), .int .u8 (f 23 : Nat), .int .u8 (f 24 : Nat), .int .u8 (f 25 : Nat), .int .u8 (f 26 : Nat), .int .u8 (f 27 : Nat), .int .u8 (f 28 : Nat), .int .u8 (f 29 : Nat), .int .u8 (f 30 : Nat), .int .u8 (f 31 : Nat)]) (.int .u64 (23 : Nat))).run Tryd.prog w = .ok (.int .u8 (f 23 : Nat)) w := by kernel_rfl
theorem index32_24 (f : Nat → Nat) (w : World) : (Instr.index 36 (.agg #[.int .u8 (f 0 : Nat), .int .u8 (f 1 : Nat), .int .u8 (f 2 : Nat), .int .u8 (f 3 : Nat), .int .u8 (f 4 : Nat), .int .u8 (f 5 : Nat), .int .u8 (f 6 : Nat), .int .u8 (f 7 : Nat), .int .u8 (f 8 : Nat), .int .u8 (f 9 : Nat), .int .u8 (f 10 : Nat), .int .u8 (f 11 : Nat), .int .u8 (f 12 : Nat), .int .u8 (f 13 : Nat), .int .u8 (f 14 : Nat), .int .u8 (f 15 : Nat), .int .u8 (f 16 : Nat), .int .u8 (f 17 : Nat), .int .u8 (f 18 : Nat), .int .u8 (f 19 : Nat), .int .u8 (f 20 : Nat), .int .u8 (f 21 : Nat), .int .u8 (f 22 : Nat), .int .u8 (f 23 : Nat), .int .u8 (f 24 : Nat), .int .u8 (f 25 : Nat), .int .u8 (f 26 : Nat), .int .u8 (f 27 : Nat), .int .u8 (f 28 : Nat), .int .u8 (f 29 : Nat), .int .u8 (f 30 : Nat), .int .u8 (f 31 : Nat)]) (.int .u64 (24 : Nat))).run Tryd.prog w = .ok (.int .u8 (f 24 : Nat)) w := by kernel_rfl
theorem index32_25 (f : Nat → Nat) (w : World) : (Instr.index 36 (.agg #[.int .u8 (f 0 : Nat), .int .u8 (f 1 : Nat), .int .u8 (f 2 : Nat), .int .u8 (f 3 : Nat), .int .u8 (f 4 : Nat), .int .u8 (f 5 : Nat), .int .u8 (f 6 : Nat), .int .u8 (f 7 : Nat), .int .u8 (f 8 : Nat), .int .u8 (f 9 : Nat), .int .u8 (f 10 : Nat), .int .u8 (f 11 : Nat), .int .u8 (f 12 : Nat), .int .u8 (f 13 : Nat), .int .u8 (f 14 : Nat), .int .u8 (f 15 : Nat), .int .u8 (f 16 : Nat), .int .u8 (f 17 : Nat), .int .u8 (f 18 : Nat), .int .u8 (f 19 : Nat), .int .u8 (f 20 : Nat), .int .u8 (f 21 : Nat), .int .u8 (f 22 : Nat), .int .u8 (f 23 : Nat), .int .u8 (f 24 : Nat), .int .u8 (f 25 : Nat), .int .u8 (f 26 : Nat), .int .u8 (f 27 : Nat), .int .u8 (f 28 : Nat), .int .u8 (f 29 : Nat), .int .u8 (f 30 : Nat), .int .u8 (f 31 : Nat)]) (.int .u64 (25 : Nat))).run Tryd.prog w = .ok (.int .u8 (f 25 : Nat)) w := by kernel_rfl
theorem index32_26 (f : Nat → Nat) (w : World) : (Instr.index 36 (.agg #[.int .u8 (f 0 : Nat), .int .u8 (f 1 : Nat), .int .u8 (f 2 : Nat), .int .u8 (f 3 : Nat), .int .u8 (f 4 : Nat), .int .u8 (f 5 : Nat), .int .u8 (f 6 : Nat), .int .u8 (f 7 : Nat), .int .u8 (f 8 : Nat), .int .u8 (f 9 : Nat), .int .u8 (f 10 : Nat), .int .u8 (f 11 : Nat), .int .u8 (f 12 : Nat), .int .u8 (f 13 : Nat), .int .u8 (f 14 : Nat), .int .u8 (f 15 : Nat), .int .u8 (f 16 : Nat), .int .u8 (f 17 : Nat), .int .u8 (f 18 : Nat), .int .u8 (f 19 : Nat), .int .u8 (f 20 : Nat), .int .u8 (f 21 : Nat), .int .u8 (f 22 : Nat), .int .u8 (f 23 : Nat), .int .u8 (f 24 : Nat), .int .u8 (f 25 : Nat), .int .u8 (f 26 : Nat), .int .u8 (f 27 : Nat), .int .u8 (f 28 : Nat), .int .u8 (f 29 : Nat), .int .u8 (f 30 : Nat), .int .u8 (f 31 : Nat)]) (.int .u64 (26 : Nat))).run Tryd.prog w = .ok (.int .u8 (f 26 : Nat)) w := by kernel_rfl
theorem index32_27 (f : Nat → Nat) (w : World) : (Instr.index 36 (.agg #[.int .u8 (f 0 : Nat), .int .u8 (f 1 : Nat), .int .u8 (f 2 : Nat), .int .u8 (f 3 : Nat), .int .u8 (f 4 : Nat), .int .u8 (f 5 : Nat), .int .u8 (f 6 : Nat), .int .u8 (f 7 : Nat), .int .u8 (f 8 : Nat), .int .u8 (f 9 : Nat), .int .u8 (f 10 : Nat), .int .u8 (f 11 : Nat), .int .u8 (f 12 : Nat), .int .u8 (f 13 : Nat), .int .u8 (f 14 : Nat), .int .u8 (f 15 : Nat), .int .u8 (f 16 : Nat), .int .u8 (f 17 : Nat), .int .u8 (f 18 : Nat), .int .u8 (f 19 : Nat), .int .u8 (f 20 : Nat), .int .u8 (f 21 : Nat), .int .u8 (f 22 : Nat), .int .u8 (f 23 : Nat), .int .u8 (f 24 : Nat), .int .u8 (f 25 : Nat), .int .u8 (f 26 : Nat), .int .u8 (f 27 : Nat), .int .u8 (f 28 : Nat), .int .u8 (f 29 : Nat), .int .u8 (f 30 : Nat), .int .u8 (f 31 : Nat)]) (.int .u64 (27 : Nat))).run Tryd.prog w = .ok (.int .u8 (f 27 : Nat)) w := by kernel_rfl
theorem index32_28 (f : Nat → Nat) (w : World) : (Instr.index 36 (.agg #[.int .u8 (f 0 : Nat), .int .u8 (f 1 : Nat), .int .u8 (f 2 : Nat), .int .u8 (f 3 : Nat), .int .u8 (f 4 : Nat), .int .u8 (f 5 : Nat), .int .u8 (f 6 : Nat), .int .u8 (f 7 : Nat), .int .u8 (f 8 : Nat), .int .u8 (f 9 : Nat), .int .u8 (f 10 : Nat), .int .u8 (f 11 : Nat), .int .u8 (f 12 : Nat), .int .u8 (f 13 : Nat), .int .u8 (f 14 : Nat), .int .u8 (f 15 : Nat), .int .u8 (f 16 : Nat), .int .u8 (f 17 : Nat), .int .u8 (f 18 : Nat), .int .u8 (f 19 : Nat), .int .u8 (f 20 : Nat), .int .u8 (f 21 : Nat), .int .u8 (f 22 : Nat), .int .u8 (f 23 : Nat), .int .u8 (f 24 : Nat), .int .u8 (f 25 : Nat), .int .u8 (f 26 : Nat), .int .u8 (f 27 : Nat), .int .u8 (f 28 : Nat), .int .u8 (f 29 : Nat), .int .u8 (f 30 : Nat), .int .u8 (f 31 : Nat)]) (.int .u64 (28 : Nat))).run Tryd.prog w = .ok (.int .u8 (f 28 : Nat)) w := by kernel_rfl
theorem index32_29 (f : Nat → Nat) (w : World) : (Instr.index 36 (.agg #[.int .u8 (f 0 : Nat), .int .u8 (f 1 : Nat), .int .u8 (f 2 : Nat), .int .u8 (f 3 : Nat), .int .u8 (f 4 : Nat), .int .u8 (f 5 : Nat), .int .u8 (f 6 : Nat), .int .u8 (f 7 : Nat), .int .u8 (f 8 : Nat), .int .u8 (f 9 : Nat), .int .u8 (f 10 : Nat), .int .u8 (f 11 : Nat), .int .u8 (f 12 : Nat), .int .u8 (f 13 : Nat), .int .u8 (f 14 : Nat), .int .u8 (f 15 : Nat), .int .u8 (f 16 : Nat), .int .u8 (f 17 : Nat), .int .u8 (f 18 : Nat), .int .u8 (f 19 : Nat), .int .u8 (f 20 : Nat), .int .u8 (f 21 : Nat), .int .u8 (f 22 : Nat), .int .u8 (f 23 : Nat), .int .u8 (f 24 : Nat), .int .u8 (f 25 : Nat), .int .u8 (f 26 : Nat), .int .u8 (f 27 : Nat), .int .u8 (f 28 : Nat), .int .u8 (f 29 : Nat), .int .u8 (f 30 : Nat), .int .u8 (f 31 : Nat)]) (.int .u64 (29 : Nat))).run Tryd.prog w = .ok (.int .u8 (f 29 : Nat)) w := by kernel_rfl
theorem index32_30 (f : Nat → Nat) (w : World) : (Instr.index 36 (.agg #[.int .u8 (f 0 : Nat), .int .u8 (f 1 : Nat), .int .u8 (f 2 : Nat), .int .u8 (f 3 : Nat), .int .u8 (f 4 : Nat), .int .u8 (f 5 : Nat), .int .u8 (f 6 : Nat), .int .u8 (f 7 : Nat), .int .u8 (f 8 : Nat), .int .u8 (f 9 : Nat), .int .u8 (f 10 : Nat), .int .u8 (f 11 : Nat), .int .u8 (f 12 : Nat), .int .u8 (f 13 : Nat), .int .u8 (f 14 : Nat), .int .u8 (f 15 : Nat), .int .u8 (f 16 : Nat), .int .u8 (f 17 : Nat), .int .u8 (f 18 : Nat), .int .u8 (f 19 : Nat), .int .u8 (f 20 : Nat), .int .u8 (f 21 : Nat), .int .u8 (f 22 : Nat), .int .u8 (f 23 : Nat), .int .u8 (f 24 : Nat), .int .u8 (f 25 : Nat), .int .u8 (f 26 : Nat), .int .u8 (f 27 : Nat), .int .u8 (f 28 : Nat), .int .u8 (f 29 : Nat), .int .u8 (f 30 : Nat), .int .u8 (f 31 : Nat)]) (.int .u64 (30 : Nat))).run Tryd.prog w = .ok (.int .u8 (f 30 : Nat)) w := by kernel_rfl
theorem index32_31 (f : Nat → Nat) (w : World) : (Instr.index 36 (.agg #[.int .u8 (f 0 : Nat), .int .u8 (f 1 : Nat), .int .u8 (f 2 : Nat), .int .u8 (f 3 : Nat), .int .u8 (f 4 : Nat), .int .u8 (f 5 : Nat), .int .u8 (f 6 : Nat), .int .u8 (f 7 : Nat), .int .u8 (f 8 : Nat), .int .u8 (f 9 : Nat), .int .u8 (f 10 : Nat), .int .u8 (f 11 : Nat), .int .u8 (f 12 : Nat), .int .u8 (f 13 : Nat), .int .u8 (f 14 : Nat), .int .u8 (f 15 : Nat), .int .u8 (f 16 : Nat), .int .u8 (f 17 : Nat), .int .u8 (f 18 : Nat), .int .u8 (f 19 : Nat), .int .u8 (f 20 : Nat), .int .u8 (f 21 : Nat), .int .u8 (f 22 : Nat), .int .u8 (f 23 : Nat), .int .u8 (f 24 : Nat), .int .u8 (f 25 : Nat), .int .u8 (f 26 : Nat), .int .u8 (f 27 : Nat), .int .u8 (f 28 : Nat), .int .u8 (f 29 : Nat), .int .u8 (f 30 : Nat), .int .u8 (f 31 : Nat)]) (.int .u64 (31 : Nat))).run Tryd.prog w = .ok (.int .u8 (f 31 : Nat)) w := by kernel_rfl
theorem index32 (f : Nat → Nat) (n : Nat) (hn : n < 32) (w : World) : (Instr.index 36 (.agg (brow f 32)) (.int .u64 n)).run Tryd.prog w = .ok (.int .u8 (f n : Nat)) w := by
  rw [brow_full]
  have h : n = 0 ∨ n = 1 ∨ n = 2 ∨ n = 3 ∨ n = 4 ∨ n = 5 ∨ n = 6 ∨ n = 7 ∨ n = 8 ∨ n = 9 ∨ n = 10 ∨ n = 11 ∨ n = 12 ∨ n = 13 ∨ n = 14 ∨ n = 15 ∨ n = 16 ∨ n = 17 ∨ n = 18 ∨ n = 19 ∨ n = 20 ∨ n = 21 ∨ n = 22 ∨ n = 23 ∨ n = 24 ∨ n = 25 ∨ n = 26 ∨ n = 27 ∨ n = 28 ∨ n = 29 ∨ n = 30 ∨ n = 31 := by omega
  rcases h with rfl | rfl | rfl | rfl | rfl | rfl | rfl | rfl | rfl | rfl | rfl | rfl | rfl | rfl | rfl | rfl | rfl | rfl | rfl | rfl | rfl | rfl | rfl | rfl | rfl | rfl | rfl | rfl | rfl | rfl | rfl | rfl
  · exact index32_0 f w
  · exact index32_1 f w
  · exact index32_2 f w
  · exact index32_3 f w
  · exact index32_4 f w
  · exact index32_5 f w
  · exact index32_6 f w
  · exact index32_7 f w
  · exact index32_8 f w
  · exact index32_9 f w
  · exact index32_10 f w
  · exact index32_11 f w
  · exact index32_12 f w
  · exact index32_13 f w
  · exact index32_14 f w
  · exact index32_15 f w
  · exact index32_16 f w
  · exact index32_17 f w
  · exact index32_18 f w
  · exact index32_19 f w
  · exact index32_20 f w
  · exact index32_21 f w
  · exact index32_22 f w
  · exact index32_23 f w
  · exact index32_24 f w
  · exact index32_25 f w
  · exact index32_26 f w
  · exact index32_27 f w
  · exact index32_28 f w
  · exact index32_29 f w
  · exact index32_30 f w
  · exact index32_31 f w
end Go.Proofs.YthfadinocadhaaaDoor

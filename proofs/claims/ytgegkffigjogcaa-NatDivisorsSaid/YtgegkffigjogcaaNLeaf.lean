/- What the sums and differences of 32 bits, the lengths of numbers of 32 bits come to; nat.Check, slices.Clone, slices.Clip, nat.Plain; what the statements call of their own: own, few, same. -/
import Derived.Test.YtgegkffigjogcaaNBase
import Derived.Laws.AppendOwnNone
import Derived.Deep.QuietTactic
import Derived.Lib.SliceRun
namespace Go.Proofs.Ytgegkffigjogcaa
open Go.RowKit

/-- Parts as cells. -/
def pl (f : Nat → Nat) (n : Nat) : List Value := (List.range n).map fun j => .int .u32 (f j : Nat)
theorem pl_len (f : Nat → Nat) (n : Nat) : (pl f n).length = n := by simp [pl]
theorem pl_at (f : Nat → Nat) (n j : Nat) (h : j < n) : (pl f n)[j]? = some (.int .u32 (f j : Nat)) := by simp [pl, h]
theorem one_pl (f : Nat → Nat) (n : Nat) : ∀ u ∈ pl f n, u.oneCell' = true := fun u hu => by
  unfold pl at hu
  rw [List.mem_map] at hu
  obtain ⟨j, -, rfl⟩ := hu
  rfl
theorem news_pl {w : World} {b o n : Nat} {f : Nat → Nat} (h : Pt w b o n f) : ∀ j u, (pl f n)[j]? = some u → w.cell? ((⟨b, o, none⟩ : Addr).add j) = some u := fun j u hj => by
  have hj2 : j < n := by
    have := (List.getElem?_eq_some_iff.1 hj).1
    rwa [pl_len] at this
  rw [pl_at _ _ _ hj2] at hj
  cases hj
  have h := h.2 j hj2
  cases j with
  | zero => simpa [Addr.add] using h
  | succ j => simpa [Addr.add] using h
theorem own_pt {w : World} {base n : Nat} {v : Value} {f : Nat → Nat} (h : w.ownsRow base 32 1 v n (pl f n)) (hn : 0 < n) : ∃ g cap, v = .slice (some ⟨g, 0, none⟩) n cap ∧ n ≤ cap ∧ base ≤ g ∧ Pt w g 0 n f := by
  obtain ⟨-, h1⟩ := h
  rcases h1 with ⟨-, h0⟩ | ⟨g, cap, cur, rfl, hg, hc, hnc, hm, hcs, ht⟩
  · omega
  · refine ⟨g, cap, rfl, hnc, hg, (Array.getElem?_eq_some_iff.1 hc).1, fun j hj => ?_⟩
    rw [Nat.zero_add, cell_of_row _ _ _ _ _ _ hc, ← pl_at f n j hj, ← ht]
    simp only [Nat.mul_one, List.getElem?_take, hj, if_true]
    simp

theorem wrap_u32_nat (x : Nat) : IntKind.u32.wrap (x : Int) = ((x % 4294967296 : Nat) : Int) := by rw [IntKind.wrap_u32]; omega
theorem add32_any (x y c : Nat) (hx : x < 4294967296) (hy : y < 4294967296) (hc : c < 4294967296) (w : World) :
    Calls Try.prog 65 #[.int .u32 x, .int .u32 y, .int .u32 c] w fun e w' => e = .returned (.tuple #[.int .u32 ((x + y + c) % 4294967296 : Nat), .int .u32 ((x + y + c) / 4294967296 : Nat)]) ∧ w = w' := by
  have x0 : (0 : Int) ≤ x := by omega
  have x1 : (x : Int) < 4294967296 := by omega
  have y0 : (0 : Int) ≤ y := by omega
  have y1 : (y : Int) < 4294967296 := by omega
  have c0 : (0 : Int) ≤ c := by omega
  have c1 : (c : Int) < 4294967296 := by omega
  clear hx hy hc
  go_enter Try.func65, Try.ntmps65
  go_wp2
  go_ret2
  refine ⟨?_, rfl⟩
  show Ending.returned (.tuple #[.int .u32 ((x + y + c : Int) % 4294967296), .int .u32 ((x + y + c : Int) / 4294967296)]) = _
  simp

theorem bits_u32_nat (a b : Nat) (ha : a < 4294967296) (hb : b < 4294967296) :
    bits .and .u32 (a : Int) (b : Int) = ((a &&& b : Nat) : Int) ∧ bits .or .u32 (a : Int) (b : Int) = ((a ||| b : Nat) : Int) ∧ bits .xor .u32 (a : Int) (b : Int) = ((a ^^^ b : Nat) : Int) := by
  have h1 : (BitVec.ofInt 32 (a : Int)).toNat = a := by
    rw [BitVec.ofInt_natCast, BitVec.toNat_ofNat]; exact Nat.mod_eq_of_lt (by omega)
  have h2 : (BitVec.ofInt 32 (b : Int)).toNat = b := by
    rw [BitVec.ofInt_natCast, BitVec.toNat_ofNat]; exact Nat.mod_eq_of_lt (by omega)
  refine ⟨?_, ?_, ?_⟩
  · have hx : a &&& b < 2 ^ 32 := Nat.and_lt_two_pow _ (by omega)
    show IntKind.u32.wrap ((BitVec.ofInt 32 (a : Int) &&& BitVec.ofInt 32 (b : Int)).toNat : Int) = _
    rw [BitVec.toNat_and, h1, h2, IntKind.wrap_u32]; omega
  · have hx : a ||| b < 2 ^ 32 := Nat.or_lt_two_pow (by omega) (by omega)
    show IntKind.u32.wrap ((BitVec.ofInt 32 (a : Int) ||| BitVec.ofInt 32 (b : Int)).toNat : Int) = _
    rw [BitVec.toNat_or, h1, h2, IntKind.wrap_u32]; omega
  · have hx : a ^^^ b < 2 ^ 32 := Nat.xor_lt_two_pow (by omega) (by omega)
    show IntKind.u32.wrap ((BitVec.ofInt 32 (a : Int) ^^^ BitVec.ofInt 32 (b : Int)).toNat : Int) = _
    rw [BitVec.toNat_xor, h1, h2, IntKind.wrap_u32]; omega
theorem not_u32_nat (a : Nat) (ha : a < 4294967296) : bits .xor .u32 IntKind.u32.max (a : Int) = ((4294967295 - a : Nat) : Int) := by
  have h := (bits_u32_nat 4294967295 a (by omega) ha).2.2
  rw [show IntKind.u32.max = ((4294967295 : Nat) : Int) by rfl, h]
  congr 1
  apply Nat.eq_of_testBit_eq
  intro i
  rw [show 4294967295 - a = 2 ^ 32 - (a + 1) by omega, Nat.testBit_two_pow_sub_succ (by omega), Nat.testBit_xor, show (4294967295 : Nat) = 2 ^ 32 - 1 by rfl, Nat.testBit_two_pow_sub_one]
  by_cases h : i < 32
  · simp [h]
  · have : a.testBit i = false := Nat.testBit_lt_two_pow (Nat.lt_of_lt_of_le (show a < 2 ^ 32 by omega) (Nat.pow_le_pow_right (by omega) (by omega)))
    simp [h, this]
theorem top_bit {n : Nat} (h : n < 4294967296) : n / 2147483648 = if n.testBit 31 then 1 else 0 := by
  rw [Nat.testBit_eq_decide_div_mod_eq]
  have : n / 2 ^ 31 = n / 2147483648 := rfl
  rw [this]
  split <;> rename_i h1 <;> simp at h1 <;> omega
theorem sub32_nat (x y c d : Nat) (hx : x < 4294967296) (hy : y < 4294967296) (hc : c ≤ 1) (hd : d = (x + 4294967296 + 4294967296 - y - c) % 4294967296) :
    ((4294967295 - x) &&& y ||| (4294967295 - (x ^^^ y)) &&& d) / 2147483648 = if x < y + c then 1 else 0 := by
  have hxy : x ^^^ y < 2 ^ 32 := Nat.xor_lt_two_pow (by omega) (by omega)
  have hd' : d < 4294967296 := by omega
  have l1 : (4294967295 - x) &&& y < 2 ^ 32 := Nat.and_lt_two_pow _ (by omega)
  have l2 : (4294967295 - (x ^^^ y)) &&& d < 2 ^ 32 := Nat.and_lt_two_pow _ (by omega)
  rw [top_bit (Nat.or_lt_two_pow l1 l2)]
  have e1 : (4294967295 - x).testBit 31 = !x.testBit 31 := by
    rw [show 4294967295 - x = 2 ^ 32 - (x + 1) by omega, Nat.testBit_two_pow_sub_succ (by omega)]; simp
  have e2 : (4294967295 - (x ^^^ y)).testBit 31 = !(x ^^^ y).testBit 31 := by
    rw [show 4294967295 - (x ^^^ y) = 2 ^ 32 - ((x ^^^ y) + 1) by omega, Nat.testBit_two_pow_sub_succ (by omega)]; simp
  rw [Nat.testBit_or, Nat.testBit_and, Nat.testBit_and, e1, e2, Nat.testBit_xor]
  have ex := top_bit hx
  have ey := top_bit hy
  have ed := top_bit hd'
  cases hX : x.testBit 31 <;> cases hY : y.testBit 31 <;> cases hD : d.testBit 31 <;> rw [hX] at ex <;> rw [hY] at ey <;> rw [hD] at ed <;> simp at ex ey ed ⊢ <;> omega
/-- What Sub32 tells. -/
def Sub32Post (x y c : Nat) (w : World) (e : Ending) (w' : World) : Prop := e = .returned (.tuple #[.int .u32 ((x + 4294967296 + 4294967296 - y - c) % 4294967296 : Nat), .int .u32 ((if x < y + c then 1 else 0 : Nat) : Int)]) ∧ w = w'
theorem sub32_vals (x y c : Nat) (hx : x < 4294967296) (hy : y < 4294967296) (hc : c ≤ 1) : ((x : Int) - y - c) % 4294967296 = (((x + 4294967296 + 4294967296 - y - c) % 4294967296 : Nat) : Int) ∧
    bits BinOp.or IntKind.u32 (bits BinOp.and IntKind.u32 (bits BinOp.xor IntKind.u32 IntKind.u32.max x) y) (bits BinOp.and IntKind.u32 (bits BinOp.xor IntKind.u32 IntKind.u32.max (bits BinOp.xor IntKind.u32 x y)) (((x : Int) - y - c) % 4294967296)) / 2147483648 = ((if x < y + c then 1 else 0 : Nat) : Int) := by
  have e : ((x : Int) - y - c) % 4294967296 = (((x + 4294967296 + 4294967296 - y - c) % 4294967296 : Nat) : Int) := by omega
  refine ⟨e, ?_⟩
  rw [e]
  have h := sub32_nat x y c _ hx hy hc rfl
  obtain ⟨d, hd⟩ : ∃ d, d = (x + 4294967296 + 4294967296 - y - c) % 4294967296 := ⟨_, rfl⟩
  rw [← hd] at h ⊢
  have hxy : x ^^^ y < 2 ^ 32 := Nat.xor_lt_two_pow (by omega) (by omega)
  have l1 : (4294967295 - x) &&& y < 2 ^ 32 := Nat.and_lt_two_pow _ (by omega)
  have l2 : (4294967295 - (x ^^^ y)) &&& d < 2 ^ 32 := Nat.and_lt_two_pow _ (by omega)
  rw [not_u32_nat x hx, (bits_u32_nat x y hx hy).2.2, not_u32_nat _ hxy, (bits_u32_nat (4294967295 - x) y (by omega) hy).1, (bits_u32_nat (4294967295 - (x ^^^ y)) d (by omega) (by omega)).1, (bits_u32_nat _ _ l1 l2).2.1, ← h]
  rfl
set_option maxRecDepth 100000 in
theorem sub32_any (x y c : Nat) (hx : x < 4294967296) (hy : y < 4294967296) (hc : c ≤ 1) (w : World) :
    Calls Try.prog 66 #[.int .u32 x, .int .u32 y, .int .u32 c] w (Sub32Post x y c w) := by
  have HV := Lib.hid (sub32_vals x y c hx hy hc)
  clear hx hy hc
  go_enter Try.func66, Try.ntmps66
  go_wp2
  go_ret2
  refine ⟨?_, rfl⟩
  rw [← HV.out.1, ← HV.out.2]
  rfl

/-- What a call leaves that makes a list of its own. -/
def MkN (n : Nat) (f : Nat → Nat) (w : World) (e : Ending) (w' : World) : Prop :=
  ∃ a cap, e = .returned (.slice a n cap) ∧ n ≤ cap ∧ RdA w' a n f ∧ (∀ q, a = some q → w.heap.size ≤ q.block ∧ q.block < w'.heap.size) ∧ Below w.heap.size w w'
theorem mk_own {w w' : World} {base n : Nat} {v : Value} {f : Nat → Nat} (h : w'.ownsRow base 32 1 v n (pl f n)) (hb : w.heap.size ≤ base) (hw : Below w.heap.size w w') : MkN n f w (.returned v) w' := by
  rcases Nat.eq_zero_or_pos n with rfl | hn
  · obtain ⟨-, h1⟩ := h
    rcases h1 with ⟨rfl, -⟩ | ⟨g, cap, cur, rfl, hg, hc, hnc, hm, hcs, ht⟩
    · exact ⟨none, 0, rfl, Nat.le_refl _, .inl rfl, (fun q hq => by cases hq), hw⟩
    · exact ⟨_, cap, rfl, hnc, .inl rfl, (fun q hq => by cases hq; exact ⟨Nat.le_trans hb hg, (Array.getElem?_eq_some_iff.1 hc).1⟩), hw⟩
  · obtain ⟨g, c, rfl, hc, hg, hp⟩ := own_pt h hn
    exact ⟨_, c, rfl, hc, hp.rd, (fun q hq => by cases hq; exact ⟨Nat.le_trans hb hg, hp.1⟩), hw⟩
theorem info32 : (Try.prog.info? 32).map (fun i => (i.zero, i.size, i.bytes)) = some (some (.int .u32 0), 1, 4) := by kernel_rfl

set_option maxRecDepth 100000 in
set_option maxHeartbeats 1000000 in
theorem clone_some (b o n cap : Nat) (f : Nat → Nat) (hn : (n : Int) ≤ 35184372088832) (w : World) (hP : Pt w b o n f) :
    Calls Try.prog 52 #[.slice (some ⟨b, o, none⟩) n cap] w (MkN n f w) := by
  have HP := Lib.hid hP; clear hP
  obtain ⟨i0, hi, hz0, hz1, hz2⟩ := info_parts info32
  have hnil : ∀ w, (binOp .eql 23 (.slice (some ⟨b, o, none⟩) n cap) (.slice none 0 0)).run Try.prog w = .ok (.bool false) w := fun w => Lib.run_eql_slice_nil w _ _ _ _ _ _ _ Try.underlying23
  go_enter Try.func52, Try.ntmps52
  go_wp2_with (at_builtin; refine wpList_append_own _ rfl _ _ 23 rfl w.heap.size 32 i0 (.int .u32 0) 1 4 Try.underlying23 hi hz0 hz1 hz2 rfl (by decide) _ 0 [] rfl (World.ownsRow_made (base := w.heap.size) (e := 32) (size := 1) w #[] 0 (by simp) (by decide) (by simp)) ⟨b, o, none⟩ n cap (pl f n) rfl (by rw [pl_len, Nat.mul_one]) ?c1 ?c2 ?c3 ?c4 ?c5 ?_)
  case c1 => exact news_pl (HP.out.below ((Below.refl _ _).alloc (Nat.le_refl _) _))
  case c2 => exact one_pl f n
  case c3 => unfold maxLen; omega
  case c4 => omega
  case c5 => simp
  intro v' w1 hown' hgrow _
  have HF := Lib.hid (mk_own (w := w) hown' (Nat.le_refl _) (((Below.refl _ _).alloc (Nat.le_refl _) _).grown hgrow (by simp) (fun j hj => by cases hj; exact Nat.le_refl _)))
  clear hown' hgrow
  go_wp2
  go_ret
  exact HF.out
theorem clip_any (a : Option Addr) (n cap : Nat) (hc : n ≤ cap) (w : World) :
    Calls Try.prog 51 #[.slice a n cap] w fun e w' => e = .returned (.slice a n n) ∧ w = w' := by
  have hs : ∀ w, (Instr.slice 23 (.slice a n cap) none (some (.int .i64 (n : Int))) (some (.int .i64 (n : Int)))).run Try.prog w = .ok (.slice a n n) w := fun w => by
    have hsz : (sizeOf (Try.prog.elem 23)).run Try.prog w = .ok 1 w := by kernel_rfl
    rw [run_slice_hm w 23 a n cap (by kernel_rfl) .i64 .i64 _ _ (by omega) (by omega) (by omega), hsz]
    cases a <;> simp [Result.andThen, sliced, Addr.add]
  go_enter Try.func51, Try.ntmps51
  go_wp2
  go_ret
  exact ⟨rfl, rfl⟩

set_option maxRecDepth 100000 in
-- WHAT nat.Plain COMES TO.
theorem plain_any (a : Option Addr) (n cap : Nat) (f : Nat → Nat) (hn : (n : Int) ≤ 35184372088832) (hc : n ≤ cap) (w : World) (hP : RdA w a n f) :
    Calls Try.prog 24 #[.slice a n cap] w (MkN (tn f n) f w) := by
  have HT := Lib.hid (fun w hP => trim_any a n cap f (by omega) hc w hP)
  have hl := tn_le f n
  obtain ⟨m, hm⟩ : ∃ m, tn f n = m := ⟨_, rfl⟩
  rw [hm] at HT hl ⊢
  have hP' : RdA w a m f := hP.less m hl
  clear hm
  have HP := Lib.hid hP; clear hP
  have HP' := Lib.hid hP'; clear hP'
  by_cases h0 : m = 0
  · have e0 : ((m : Int) == 0) = true := by simp [h0]
    have HZ := Lib.hid h0; clear h0
    go_enter Try.func24, Try.ntmps24
    go_wp2_with fail
    refine (HT.out _ HP.out).mono ?_
    rintro e w' ⟨rfl, rfl⟩
    go_wp2
    go_ret
    exact ⟨none, 0, by rw [HZ.out]; rfl, by rw [HZ.out]; exact Nat.le_refl _, .inl HZ.out, (fun q hq => by cases hq), Below.refl _ _⟩
  · have e0 : ((m : Int) == 0) = false := by simp [h0]
    have hm0 : (m : Int) ≤ 35184372088832 := by omega
    obtain ⟨b, o, rfl, hp⟩ : ∃ b o, a = some ⟨b, o, none⟩ ∧ Pt w b o m f := by
      rcases HP'.out with h | h
      · exact absurd h h0
      · exact h
    have HC := Lib.hid (clone_some b o m cap f hm0 w hp); clear hp h0
    go_enter Try.func24, Try.ntmps24
    go_wp2_with fail
    refine (HT.out _ HP.out).mono ?_
    rintro e w' ⟨rfl, rfl⟩
    go_wp2_with fail
    refine HC.out.mono ?_
    rintro e w1 ⟨a1, c1, rfl, hc1, hr, hq, hb⟩
    have HR := Lib.hid (And.intro hr (And.intro hq hb)); clear hr hq hb
    go_wp2_with fail
    refine (clip_any a1 m c1 hc1 _).mono ?_
    rintro e w' ⟨rfl, rfl⟩
    go_wp2
    go_ret
    exact ⟨a1, m, rfl, Nat.le_refl _, HR.out⟩

set_option maxRecDepth 100000 in
theorem check_one (a : Option Addr) (n cap : Nat) (f : Nat → Nat) (hn : (n : Int) ≤ 35184372088832) (hc : n ≤ cap) (w : World) (hP : RdA w a n f) :
    Calls Try.prog 22 #[.slice a n cap] w fun e w' => e = .returned (.int .i64 ((if 1024 < tn f n then 2 else 0 : Nat) : Int)) ∧ w = w' := by
  have HT := Lib.hid (fun w hP => trim_any a n cap f (by omega) hc w hP)
  obtain ⟨m, hm⟩ : ∃ m, tn f n = m := ⟨_, rfl⟩
  rw [hm] at HT ⊢
  clear hm
  have HP := Lib.hid hP; clear hP
  by_cases h : 1024 < m
  · have h' : (1024 : Int) < m := by omega
    rw [if_pos h]
    clear h
    go_enter Try.func22, Try.ntmps22
    go_wp2_with fail
    refine (HT.out _ HP.out).mono ?_
    rintro e w' ⟨rfl, rfl⟩
    go_wp2
    go_ret
    exact ⟨rfl, rfl⟩
  · have h' : ¬ (1024 : Int) < m := by omega
    rw [if_neg h]
    clear h
    go_enter Try.func22, Try.ntmps22
    go_wp2_with fail
    refine (HT.out _ HP.out).mono ?_
    rintro e w' ⟨rfl, rfl⟩
    go_wp2
    go_ret
    exact ⟨rfl, rfl⟩
/-- The first code that is not nought. -/
def chk (c : Nat → Nat) : Nat → Nat
  | 0 => 0
  | k + 1 => if chk c k = 0 then c k else chk c k
theorem chk_first (c : Nat → Nat) (k : Nat) (h0 : chk c k = 0) (h1 : c k ≠ 0) : ∀ n, k < n → chk c n = c k
  | 0, h => by omega
  | n + 1, h => by
    unfold chk
    by_cases e : k = n
    · subst e; rw [if_pos h0]
    · rw [chk_first c k h0 h1 n (by omega), if_neg h1]
set_option maxRecDepth 100000 in
theorem check_any (g k : Nat) (S : Nat → Value) (c : Nat → Nat) (hk : (k : Int) ≤ 10) (w : World) (hS : ∀ j, j < k → w.cell? ⟨g, j, none⟩ = some (S j)) (hC : ∀ j, j < k → Calls Try.prog 22 #[S j] w fun e w' => e = .returned (.int .i64 (c j : Nat)) ∧ w = w') :
    Calls Try.prog 40 #[.slice (some ⟨g, 0, none⟩) k k] w fun e w' => e = .returned (.int .i64 (chk c k : Nat)) ∧ w = w' := by
  have HS := Lib.hid hS; clear hS
  have HC := Lib.hid hC; clear hC
  go_enter Try.func40, Try.ntmps40
  go_wp2
  go_loop [8] (fun iv => ∃ j : Nat, j ≤ k ∧ iv = .int .i64 j ∧ Hid (chk c j = 0)) (fun iv => k - (intOf iv).toNat)
  case atStart => exact ⟨0, by omega, rfl, Lib.hid rfl⟩
  case round =>
    obtain ⟨j, hj, rfl, H⟩ := hrel
    have hj0 : (0 : Int) ≤ j := by omega
    by_cases hlt : j < k
    · have hlt' : (j : Int) < k := by omega
      have hs := HS.out j hlt
      obtain ⟨s, hse⟩ : ∃ s, S j = s := ⟨_, rfl⟩
      have HCJ := Lib.hid (HC.out j hlt)
      obtain ⟨d, hd⟩ : ∃ d, c j = d := ⟨_, rfl⟩
      rw [hse] at hs HCJ
      rw [hd] at HCJ
      clear hse
      by_cases hz : d = 0
      · have e0 : (((d : Nat) : Int) != 0) = false := by simp [hz]
        have HD := Lib.hid hd; clear hd
        have HZ := Lib.hid hz; clear hz
        go_wp2_with fail
        refine HCJ.out.mono ?_
        rintro e w' ⟨rfl, rfl⟩
        go_wp2
        go_round
        case rel => exact ⟨j + 1, by omega, by go_num, Lib.hid (by unfold chk; rw [if_pos H.out, HD.out, HZ.out])⟩
        case measure => simp [intOf]; omega
      · have e0 : (((d : Nat) : Int) != 0) = true := by simp [hz]
        have hf : chk c k = d := by rw [chk_first c j H.out (by rw [hd]; exact hz) k hlt, hd]
        have HF := Lib.hid hf; clear hf hd hz
        go_wp2_with fail
        refine HCJ.out.mono ?_
        rintro e w' ⟨rfl, rfl⟩
        go_wp2
        go_ret
        exact ⟨by rw [HF.out]; rfl, rfl⟩
    · obtain rfl : j = k := by omega
      go_wp2
      go_ret
      exact ⟨by rw [H.out]; rfl, rfl⟩
end Go.Proofs.Ytgegkffigjogcaa

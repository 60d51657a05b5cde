/- Numbers as the calls of nat have them: what a list, or none, is the number of; what nat.check, nat.answer and nat.Len come to. -/
import Derived.Test.YtgegkffigjogcaaNDivide
import Derived.Test.YtgegkffigjogcaaNTake
import Derived.Laws.CopyOwn
namespace Go.Proofs.Ytgegkffigjogcaa
open Go.RowKit

/-- A list, or none, of n parts. -/
structure NvA (w : World) (a : Option Addr) (n cap : Nat) (f : Nat → Nat) : Prop where
  cap : n ≤ cap
  rd : RdA w a n f
  blk : ∀ q, a = some q → q.block < w.heap.size
  lt : ∀ j, j < n → f j < 4294967296
  few : (n : Int) ≤ 35184372088832
theorem NvA.below {w w' : World} {a : Option Addr} {n cap : Nat} {f : Nat → Nat} (h : NvA w a n cap f) (hb : Below w.heap.size w w') : NvA w' a n cap f :=
  ⟨h.cap, h.rd.below hb, fun q hq => Nat.lt_of_lt_of_le (h.blk q hq) hb.size, h.lt, h.few⟩
theorem NvA.trim {w : World} {a : Option Addr} {n cap : Nat} {f : Nat → Nat} (h : NvA w a n cap f) : NvA w a (tn f n) cap f :=
  ⟨Nat.le_trans (tn_le f n) h.cap, h.rd.less _ (tn_le f n), h.blk, fun j hj => h.lt j (Nat.lt_of_lt_of_le hj (tn_le f n)), by have := tn_le f n; have := h.few; omega⟩
/-- A value that is the number V. -/
def NN (V : Nat) (v : Value) (w : World) : Prop := ∃ a n cap f, v = .slice a n cap ∧ NvA w a n cap f ∧ vb 4294967296 f n = V
/-- .. without noughts behind. -/
def PV (V : Nat) (v : Value) (w : World) : Prop := ∃ a n cap f, v = .slice a n cap ∧ NvA w a n cap f ∧ vb 4294967296 f n = V ∧ (n = 0 ∨ f (n - 1) ≠ 0)
theorem PV.nn {V : Nat} {v : Value} {w : World} (h : PV V v w) : NN V v w := by
  obtain ⟨a, n, cap, f, h1, h2, h3, -⟩ := h; exact ⟨a, n, cap, f, h1, h2, h3⟩
theorem NN.below {V : Nat} {v : Value} {w w' : World} (h : NN V v w) (hb : Below w.heap.size w w') : NN V v w' := by
  obtain ⟨a, n, cap, f, h1, h2, h3⟩ := h; exact ⟨a, n, cap, f, h1, h2.below hb, h3⟩
theorem PV.below {V : Nat} {v : Value} {w w' : World} (h : PV V v w) (hb : Below w.heap.size w w') : PV V v w' := by
  obtain ⟨a, n, cap, f, h1, h2, h3⟩ := h; exact ⟨a, n, cap, f, h1, h2.below hb, h3⟩
/-- The least number that has too many parts. -/
def LIM : Nat := 4294967296 ^ 1024
theorem lim_iff {n : Nat} {f : Nat → Nat} (hf : ∀ j, j < n → f j < 4294967296) : 1024 < tn f n ↔ LIM ≤ vb 4294967296 f n := by
  have h := plain_len (P := 4294967296) (by omega) (f := f) (n := tn f n) (m := 1024) (fun j hj => hf j (Nat.lt_of_lt_of_le hj (tn_le f n))) (tn_top f n)
  rw [vb_tn] at h
  unfold LIM
  constructor
  · intro h1
    exact Nat.le_of_not_lt (fun h2 => by have := h.1 h2; omega)
  · intro h1
    exact Nat.lt_of_not_le (fun h2 => absurd (h.2 h2) (Nat.not_lt.2 h1))
/-- What is wrong with a number. -/
def cdN (V : Nat) : Nat := if LIM ≤ V then 2 else 0
theorem check_nv {w : World} {a : Option Addr} {n cap : Nat} {f : Nat → Nat} (h : NvA w a n cap f) : Calls Try.prog 22 #[.slice a n cap] w fun e w' => e = .returned (.int .i64 ((cdN (vb 4294967296 f n) : Nat) : Int)) ∧ w = w' := by
  have hc := check_one a n cap f (by have := h.few; omega) h.cap w h.rd
  have e : (if 1024 < tn f n then 2 else 0 : Nat) = cdN (vb 4294967296 f n) := by
    unfold cdN
    by_cases h1 : 1024 < tn f n
    · rw [if_pos h1, if_pos ((lim_iff h.lt).1 h1)]
    · rw [if_neg h1, if_neg (fun h2 => h1 ((lim_iff h.lt).2 h2))]
  rw [e] at hc
  exact hc
theorem trim_nv {w : World} {a : Option Addr} {n cap : Nat} {f : Nat → Nat} (h : NvA w a n cap f) : Calls Try.prog 41 #[.slice a n cap] w fun e w' => e = .returned (.slice a (tn f n) cap) ∧ w = w' := trim_any a n cap f (by have := h.few; omega) h.cap w h.rd
/-- What a call leaves that makes a number without noughts behind. -/
def MkP (V : Nat) (w : World) (e : Ending) (w' : World) : Prop := ∃ v, e = .returned v ∧ PV V v w' ∧ Below w.heap.size w w'
theorem plain_nv {w : World} {a : Option Addr} {n cap : Nat} {f : Nat → Nat} (h : NvA w a n cap f) : Calls Try.prog 24 #[.slice a n cap] w (MkP (vb 4294967296 f n) w) := by
  refine (plain_any a n cap f (by have := h.few; omega) h.cap w h.rd).mono ?_
  rintro e w' ⟨a1, c1, rfl, h1, h2, h3, h4⟩
  exact ⟨_, rfl, ⟨a1, _, c1, f, rfl, ⟨h1, h2, fun q hq => (h3 q hq).2, h.trim.lt, h.trim.few⟩, vb_tn _ _ _, tn_top f n⟩, h4⟩
/-- What a call leaves that tells a number, or that it can't. -/
def Ans (c V : Nat) (w : World) (e : Ending) (w' : World) : Prop := ∃ v, e = .returned (.tuple #[v, .int .i64 (c : Nat)]) ∧ (c = 0 → PV V v w') ∧ (c ≠ 0 → v = .slice none 0 0) ∧ Below w.heap.size w w'

set_option maxRecDepth 100000 in
theorem answer_nv {w : World} {a : Option Addr} {n cap : Nat} {f : Nat → Nat} (h : NvA w a n cap f) : Calls Try.prog 43 #[.slice a n cap] w (Ans (cdN (vb 4294967296 f n)) (vb 4294967296 f n) w) := by
  have HC := Lib.hid (check_nv h)
  have HP := Lib.hid (plain_nv h)
  clear h
  obtain ⟨V, hV⟩ : ∃ V, vb 4294967296 f n = V := ⟨_, rfl⟩
  rw [hV] at HC HP ⊢
  clear hV
  obtain ⟨c, hc⟩ : ∃ c, cdN V = c := ⟨_, rfl⟩
  rw [hc] at HC ⊢
  clear hc
  by_cases h0 : c = 0
  · have e0 : ((c : Int) != 0) = false := by simp [h0]
    have H0 := Lib.hid h0; clear h0
    go_enter Try.func43, Try.ntmps43
    go_wp2_with fail
    refine HC.out.mono ?_
    rintro e w' ⟨rfl, rfl⟩
    go_wp2_with fail
    refine HP.out.mono ?_
    rintro e w1 ⟨v, rfl, hv, hb⟩
    have HV := Lib.hid (And.intro hv hb); clear hv hb
    go_wp2
    go_ret2
    exact ⟨v, by rw [H0.out]; rfl, fun _ => HV.out.1, fun h => absurd H0.out h, HV.out.2⟩
  · have e0 : ((c : Int) != 0) = true := by simp [h0]
    have H0 := Lib.hid h0; clear h0
    go_enter Try.func43, Try.ntmps43
    go_wp2_with fail
    refine HC.out.mono ?_
    rintro e w' ⟨rfl, rfl⟩
    go_wp2
    go_ret2
    exact ⟨_, rfl, fun h => absurd h H0.out, fun _ => rfl, Below.refl _ _⟩
/-- Of two numbers what is wrong with the first that can't be. -/
def cd2 (A B : Nat) : Nat := if cdN A = 0 then cdN B else cdN A
theorem check_two {w : World} {g : Nat} {va vb' : Value} {A B : Nat} (hA : NN A va w) (hB : NN B vb' w) (h0 : w.cell? ⟨g, 0, none⟩ = some va) (h1 : w.cell? ⟨g, 1, none⟩ = some vb') :
    Calls Try.prog 40 #[.slice (some ⟨g, 0, none⟩) 2 2] w fun e w' => e = .returned (.int .i64 ((cd2 A B : Nat) : Int)) ∧ w = w' := by
  obtain ⟨a, n, ca, f, rfl, ha, rfl⟩ := hA
  obtain ⟨b, m, cb, g', rfl, hb, rfl⟩ := hB
  obtain ⟨S, s0, s1⟩ : ∃ S : Nat → Value, S 0 = .slice a n ca ∧ S 1 = .slice b m cb := ⟨fun j => if j = 0 then .slice a n ca else .slice b m cb, rfl, rfl⟩
  have c0 := check_nv ha
  have c1 := check_nv hb
  obtain ⟨k0, hk0⟩ : ∃ k0, cdN (vb 4294967296 f n) = k0 := ⟨_, rfl⟩
  obtain ⟨k1, hk1⟩ : ∃ k1, cdN (vb 4294967296 g' m) = k1 := ⟨_, rfl⟩
  unfold cd2
  rw [hk0] at c0 ⊢
  rw [hk1] at c1 ⊢
  clear hk0 hk1
  obtain ⟨c, e0, e1⟩ : ∃ c : Nat → Nat, c 0 = k0 ∧ c 1 = k1 := ⟨fun j => if j = 0 then k0 else k1, rfl, rfl⟩
  have h := check_any g 2 S c (by omega) w (fun j hj => by
    have : j = 0 ∨ j = 1 := by omega
    rcases this with rfl | rfl
    · rw [s0]; exact h0
    · rw [s1]; exact h1) (fun j hj => by
    have : j = 0 ∨ j = 1 := by omega
    rcases this with rfl | rfl
    · rw [s0, e0]; exact c0
    · rw [s1, e1]; exact c1)
  refine h.mono fun e w' ⟨he, hw⟩ => ⟨he.trans ?_, hw⟩
  simp only [chk, e0, e1, if_true]
end Go.Proofs.Ytgegkffigjogcaa

/- The permutation's moves are one-to-one; and so is a whole round. (With it, merged: RMix · RArr · Tail · Q · KCol · KRot · QL · KMix · KBit · KInj · KTheta · KChi · KRnd.) -/
import Derived.Test.YtcmpnnfnkcmpcaaDoorProg
import Derived.WalkKit
import Derived.WalkSpells
import Derived.WalkLawsBesides
import Derived.LoopN
import Derived.Handy
import Derived.Outline
import Derived.RegionTactic
import Derived.BigRegion
import Derived.BigQuiet
import Derived.WalkSmall
import Derived.OwnWalk
import Derived.Lib.Hide
import Derived.Laws.Bits64b
import Derived.Laws.Rows
import Derived.Laws.Tables
import Derived.Laws.OwnMore
import Derived.Laws.CopyOwn
import Derived.Deep.AppendLies
import Derived.Deep.LoopGhost
import Derived.StillTail
import Derived.Deep.Quiet
import Derived.Deep.QuietTactic
import Derived.StillTailTactics
import Derived.StillTactics
namespace Go.Proofs.YtcmpnnfnkcmpcaaDoor
open Go.RowKit

/-- A number turned up by s. -/
def rup (s : Nat) (x : Int) : Int := bits .or .u32 (x * 2 ^ s % 4294967296) (x / 2 ^ (32 - s))
theorem and_u64_31 (s : Nat) (h : s < 32) : bits .and .u64 (s : Int) 31 = (s : Int) := by
  have h1 := bits_and_u64_nat s 31 (by omega) (by omega)
  rw [show s &&& 31 = s from by rw [show 31 = 2 ^ 5 - 1 from rfl, Nat.and_two_pow_sub_one_eq_mod, Nat.mod_eq_of_lt h]] at h1
  exact h1
set_option maxRecDepth 100000 in
theorem rot_any (x : Int) (s : Nat) (hs : s < 32) (hs0 : 0 < s) (w : World) : Calls Tryd.prog 56 #[.int .u32 x, .int .i64 s] w fun e w' => e = .returned (.int .u32 (rup s x)) ∧ w = w' := by
  have ha := and_u64_31 s hs
  have hw : IntKind.u64.wrap (s : Int) = (s : Int) := by rw [IntKind.wrap_u64]; omega
  obtain ⟨t, ht⟩ : ∃ t : Nat, (32 : Int) - (s : Int) = (t : Int) := ⟨32 - s, by omega⟩
  have HT : Hid (32 - s = t) := Lib.hid (by omega)
  have h0 : (0 : Int) ≤ s := by omega
  have h1 : (s : Int) < 32 := by omega
  have h2 : (0 : Int) ≤ t := by omega
  have h3 : (t : Int) < 32 := by omega
  clear hs hs0
  go_enter Tryd.func56, Tryd.ntmps56
  go_wp2
  go_ret
  unfold rup
  rw [HT.out]
  exact ⟨rfl, rfl⟩
theorem rot_ten (x : Int) (w : World) : Calls Tryd.prog 56 #[.int .u32 x, .int .i64 10] w fun e w' => e = .returned (.int .u32 (rup 10 x)) ∧ w = w' := rot_any x 10 (by omega) (by omega) w
end Go.Proofs.YtcmpnnfnkcmpcaaDoor
namespace Go.Proofs.YtcmpnnfnkcmpcaaDoor
open Go.RowKit

/-- An array of n integers. -/
def ar (k : IntKind) (n : Nat) (f : Nat → Int) : Array Value := ((List.range n).map fun j => Value.int k (f j)).toArray
theorem ar_size (k : IntKind) (n : Nat) (f : Nat → Int) : (ar k n f).size = n := by simp [ar]
theorem ar_at (k : IntKind) (n : Nat) (f : Nat → Int) (j : Nat) (h : j < n) : (ar k n f)[j]? = some (.int k (f j)) := by simp [ar, h]
def updI (f : Nat → Int) (p : Nat) (y : Int) (j : Nat) : Int := if j = p then y else f j
theorem ar_set (k : IntKind) (n : Nat) (f : Nat → Int) (p : Nat) (y : Int) (h : p < n) : (ar k n f).setIfInBounds p (.int k y) = ar k n (updI f p y) := by
  apply Array.ext
  · simp [ar]
  · intro i h1 h2
    have hi : i < n := by simpa [ar] using h2
    by_cases e : i = p
    · subst e; simp [ar, updI]
    · simp [ar, updI, e, Ne.symm e]
theorem ar_congr {k : IntKind} {n : Nat} {f g : Nat → Int} (h : ∀ j, j < n → f j = g j) : ar k n f = ar k n g := by
  unfold ar
  congr 1
  apply List.map_congr_left
  intro j hj
  rw [h j (by simpa using hj)]
theorem ar_one (k : IntKind) (n : Nat) (f : Nat → Int) : (ar k n f).all (·.oneCell') = true := by simp [ar, Value.oneCell']
theorem ar_cells (k : IntKind) (n : Nat) (f : Nat → Int) : (Value.agg (ar k n f)).cells = ar k n f := by
  simp [Value.cells]
theorem index_ar {P : Program} {t e : TypeId} {k : IntKind} {n : Nat} {f : Nat → Int} {i : Nat} (w : World) (ht : P.underlying t = some (.array n e)) (hs : (sizeOf e).run P w = .ok 1 w) (ha : (isAgg e).run P w = .ok false w) (h : i < n) : (Instr.index t (.agg (ar k n f)) (.int .i64 i)).run P w = .ok (.int k (f i)) w := by
  have h0 : (0 : Int) ≤ i := by omega
  have h1 : ¬ n ≤ i := by omega
  have hc := ar_at k n f i h
  simp [Instr.index, asIntOf, run_underlying ht, part, hs, ha, h0, h1, hc, Result.andThen]
theorem heap3 (w : World) (A B C : Obj) : (((w.alloc A).alloc B).alloc C).heap[w.heap.size]? = some A ∧ (((w.alloc A).alloc B).alloc C).heap[w.heap.size + 1]? = some B ∧ (((w.alloc A).alloc B).alloc C).heap[w.heap.size + 1 + 1]? = some C := by
  show (((w.heap.push A).push B).push C)[w.heap.size]? = _ ∧ (((w.heap.push A).push B).push C)[w.heap.size + 1]? = _ ∧ (((w.heap.push A).push B).push C)[w.heap.size + 1 + 1]? = _
  refine ⟨?_, ?_, ?_⟩
  · simp [Array.getElem?_push]
    omega
  · have h : w.heap.size + 1 ≠ (((w.heap.push A).push B)).size := by simp
    rw [Array.getElem?_push, if_neg h, Array.getElem?_push, if_pos (by simp)]
  · rw [Array.getElem?_push, if_pos (by simp)]
theorem or_u32 (a b : Nat) (ha : a < 4294967296) (hb : b < 4294967296) : bits .or .u32 (a : Int) (b : Int) = ((a ||| b : Nat) : Int) := by
  have hx : a ||| b < 2 ^ 32 := Nat.or_lt_two_pow (by omega) (by omega)
  have h1 : (BitVec.ofInt 32 (a : Int)).toNat = a := by
    rw [BitVec.ofInt_natCast, BitVec.toNat_ofNat]; exact Nat.mod_eq_of_lt (by omega)
  have h2 : (BitVec.ofInt 32 (b : Int)).toNat = b := by
    rw [BitVec.ofInt_natCast, BitVec.toNat_ofNat]; exact Nat.mod_eq_of_lt (by omega)
  show IntKind.u32.wrap ((BitVec.ofInt 32 (a : Int) ||| BitVec.ofInt 32 (b : Int)).toNat : Int) = _
  rw [BitVec.toNat_or, h1, h2, IntKind.wrap_u32]
  omega
theorem or_up {D x s : Nat} (hx : x < 256) (hs : s ≤ 24) (hD : D < 2 ^ s) : bits .or .u32 (D : Int) ((x : Int) * 2 ^ s % 4294967296) = ((D + 2 ^ s * x : Nat) : Int) ∧ D + 2 ^ s * x < 2 ^ (s + 8) := by
  have hp : 2 ^ (s + 8) ≤ 2 ^ 32 := Nat.pow_le_pow_right (by omega) (by omega)
  have h1 : 2 ^ s * (x + 1) ≤ 2 ^ s * 256 := Nat.mul_le_mul_left _ hx
  have h2 : 2 ^ (s + 8) = 2 ^ s * 256 := by rw [Nat.pow_add]
  have h3 : D + 2 ^ s * x < 2 ^ (s + 8) := by rw [h2]; rw [Nat.mul_add, Nat.mul_one] at h1; omega
  refine ⟨?_, h3⟩
  have e1 : ((x : Int) * 2 ^ s) = ((2 ^ s * x : Nat) : Int) := by simp [Int.mul_comm]
  have e2 : ((2 ^ s * x : Nat) : Int) % 4294967296 = ((2 ^ s * x : Nat) : Int) := by
    have : 2 ^ s * x < 4294967296 := by omega
    omega
  rw [e1, e2, or_u32 D _ (by omega) (by omega), Nat.or_comm, ← Nat.two_pow_add_eq_or_of_lt hD]
  congr 1
  omega
end Go.Proofs.YtcmpnnfnkcmpcaaDoor
namespace Go.Proofs.YtcmpnnfnkcmpcaaDoor
open Go

section
variable {P : Program} {ops : Array Oper} {md : Region.Mode} {C : World → Prop}

/-- Whatever order is picked among the first n, till all of them are done. -/
def anyHead (P : Program) (md : Region.Mode) (ops : Array Oper) (C : World → Prop) (n : Nat) (L : Array Bool → Act → Prop) : Nat → Array Bool → Act → Prop
  | 0, listed, a => L listed a
  | f + 1, listed, a => Region.ready md ops listed ≠ [] ∧ ∀ i ∈ Region.ready md ops listed, i < n ∧ qOp P ops C i (anyHead P md ops C n L f (listed.setIfInBounds i true)) a

theorem any_of_head {n g : Nat} {L : Array Bool → Act → Prop} {Q' : Exit → Act → World → Prop} (hL : ∀ listed a w, C w → L listed a → wpAny P md ops Q' g listed a w) :
    ∀ (f : Nat) (listed : Array Bool) (a : Act) (w : World), C w → anyHead P md ops C n L f listed a → wpAny P md ops Q' (f + g) listed a w
  | 0, listed, a, w, hw, h => by rw [Nat.zero_add]; exact hL _ _ _ hw h
  | f + 1, listed, a, w, hw, h => by
    rw [show f + 1 + g = (f + g) + 1 by omega]
    exact ⟨fun h0 => absurd h0 h.1, fun i hi => wpOp_of_qOp hw (fun a' w' hw' h' => any_of_head hL f _ a' w' hw' h') (h.2 i hi).2⟩

theorem head_first {n i : Nat} {oi : Oper} {v : Value} {L : Array Bool → Act → Prop} (hi : ops[i]? = some oi) (hsel : ∀ (j : Nat) (o : Oper) cs b, ops[j]? = some o → o.op ≠ .select cs b)
    (hs : Region.sinkB md ops n = true) (hc : Region.chainB md ops n = true) (hn : n < ops.size) (hin : i < n)
    (hdone : ∀ listed a, L listed a → ∀ j ∈ Region.ready md ops listed, n ≤ j) :
    ∀ (f : Nat) (listed : Array Bool) (a : Act), HeadInv md ops n listed →
      (∀ j oj, ops[j]? = some oj → j ≠ i → listed.getD j true = false → (∀ e ∈ oj.after, Region.binds md e = true → e.on ≠ i) → oi.apart ops oj = true) →
      i ∈ Region.ready md ops listed → YieldsIn P ops C oi v a →
      anyHead P md ops C n L f (listed.setIfInBounds i true) (a.put oi.dst v) → anyHead P md ops C n L (f + 1) listed a := by
  intro f
  induction f with
  | zero =>
    intro listed a inv _ hr hy H
    have hun := (mem_ready.1 hr).1
    refine ⟨fun h => (by rw [h] at hr; cases hr), fun j hj => ?_⟩
    have hjn : j < n := by
      rcases Nat.lt_or_ge j n with h | h
      · exact h
      · exact absurd hj (tail_waits hs hc hn inv _ i rfl hin hun j h)
    refine ⟨hjn, ?_⟩
    by_cases hji : j = i
    · subst hji; exact hy.qOp hi H
    · have := hdone _ _ H j (ready_mono hj hji)
      omega
  | succ f ih =>
    intro listed a inv hfree hr hy H
    have hun := (mem_ready.1 hr).1
    refine ⟨fun h => (by rw [h] at hr; cases hr), fun j hj => ?_⟩
    have hjn : j < n := by
      rcases Nat.lt_or_ge j n with h | h
      · exact h
      · exact absurd hj (tail_waits hs hc hn inv _ i rfl hin hun j h)
    refine ⟨hjn, ?_⟩
    by_cases hji : j = i
    · subst hji; exact hy.qOp hi H
    · have h1 := (H.2 j (ready_mono hj hji)).2
      obtain ⟨hjun, oj, hoj, hall⟩ := mem_ready.1 hj
      have hnot : ∀ e ∈ oj.after, Region.binds md e = true → e.on ≠ i := fun e he hb heq => by
        have h1 := hall e he hb
        rw [heq, getD_both hun] at h1
        cases h1
      have h2 := qOp_put hoj (hfree j oj hoj hji hjun hnot) (fun cs b => hsel i oi cs b hi) (fun cs b => hsel j oj cs b hoj) hy h1
      have hfree' : ∀ k ok, ops[k]? = some ok → k ≠ i → (listed.setIfInBounds j true).getD k true = false →
          (∀ e ∈ ok.after, Region.binds md e = true → e.on ≠ i) → oi.apart ops ok = true := fun k ok hk hki hun hno => by
        refine hfree k ok hk hki ?_ hno
        by_cases hjk : j = k
        · subst hjk; exact hjun
        · rw [getD_set_ne true hjk] at hun; exact hun
      refine qOp_mono (fun a' h3 => ih (listed.setIfInBounds j true) a' (inv.set hj hjn) hfree' (ready_mono hr (Ne.symm hji)) h3.1 ?_) h2
      rw [Array.setIfInBounds_comm _ _ hji]
      exact h3.2

theorem head_lex {n g : Nat} {Lq : Act → Prop} (hsel : Region.noSelect ops = true) (hs : Region.sinkB md ops n = true) (hc : Region.chainB md ops n = true) (hn : n < ops.size) :
    ∀ (l : List Oper) (k : Nat) (listed : Array Bool) (a : Act), (∀ j, j < l.length → l[j]? = ops[k + j]?) → k + l.length = n → HeadInv md ops n listed →
    Region.lexHead md ops g l.length k listed = true → wpQuiet P ops C Lq l a →
    anyHead P md ops C n (fun listed' a' => Region.seqB md ops g n listed' = true ∧ Lq a') l.length listed a
  | [], k, listed, a, _, hk, _, hB, h => by
    have : k = n := by simpa using hk
    subst this
    exact ⟨by simpa [Region.lexHead] using hB, h⟩
  | o :: l, k, listed, a, hl, hk, inv, hB, h => by
    have h0 : ops[k]? = some o := by simpa using (hl 0 (by simp)).symm
    simp only [List.length_cons, Region.lexHead, Bool.and_eq_true] at hB
    obtain ⟨⟨hr, hf⟩, hB'⟩ := hB
    have hkn : k < n := by simp only [List.length_cons] at hk; omega
    have hr' : k ∈ Region.ready md ops listed := by simpa using hr
    have hst : qOp P ops C k (wpQuiet P ops C Lq l) a := by unfold qOp; simp only [h0]; exact h
    obtain ⟨v, hy, hK⟩ := yieldsIn_of_qOp h0 hst
    exact head_first h0 (Region.noSelect_spec hsel) hs hc hn hkn (fun listed' a' hL => seqB_ready hL.1) l.length listed a inv (Region.free_spec h0 hf) hr' hy
      (head_lex hsel hs hc hn l (k + 1) _ _ (fun j hj => by have := hl (j + 1) (by simp; omega); simpa [Nat.add_assoc, Nat.add_comm 1 j] using this) (by simp only [List.length_cons] at hk; omega) (inv.set hr' hkn) hB' hK)

/-- THE LAW: a quiet head over a class of worlds, then a tail in the text's order, from any world of the class. -/
theorem region_quiet_tail {id : Nat} {Q : Exit → Act → World → Prop} {a : Act} {w : World} {l : List Oper} (n : Nat) (C : World → Prop) (hm : P.follows .mixedOrders = true) (hB : Region.lexTailB .any l.toArray n = true) (hC : C w.drew)
    (h : wpQuiet P l.toArray C (fun a' => ∀ w', C w' → wpList P l.toArray Q (l.drop n) a' w') (l.take n) a) : (Code.region id l.toArray true).wp P Q a w := by
  simp only [Region.lexTailB, Bool.and_eq_true, decide_eq_true_eq] at hB
  obtain ⟨⟨⟨⟨hsel, hn⟩, hs⟩, hc⟩, hlex⟩ := hB
  have hn' : n < l.length := by simpa using hn
  have htl : (l.take n).length = n := by simp; omega
  have hdl : (l.drop n).length = l.toArray.size - n := by simp
  have inv0 : HeadInv .any l.toArray n (Array.replicate l.toArray.size false) :=
    ⟨by simp, fun j oj _ hl => (by rw [getD_replicate_false] at hl; cases hl), fun t _ ht => getD_in (by simpa using ht) (getD_replicate_false _ _)⟩
  have H := head_lex (md := .any) (g := l.toArray.size - n) hsel hs hc hn (l.take n) 0 _ a (fun j hj => by
    have hj' : j < n := by rw [htl] at hj; exact hj
    simp [hj']) (by simpa using htl) inv0 (by rw [htl]; exact hlex) h
  refine wp_region_any hm ?_
  have := any_of_head (Q' := Q) (g := l.toArray.size - n) (fun listed a' w' hw' hL => by
    have := wpAny_of_seq (md := .any) (Q' := Q) (l.drop n) n listed a' w' (fun j => by simp [List.getElem?_drop]) (by rw [hdl]; exact hL.1) (hL.2 w' hw')
    rwa [hdl] at this) _ _ _ w.drew hC H
  rw [htl, show n + (l.toArray.size - n) = l.toArray.size by omega] at this
  exact this
end
end Go.Proofs.YtcmpnnfnkcmpcaaDoor
namespace Go.Proofs.YtcmpnnfnkcmpcaaDoor
open Go.RowKit

section
variable {P : Program} {ops : Array Oper} {C : World → Prop} {Q : Act → Prop} {a : Act} {o : Oper} {rest : List Oper}

/-- An operation that is passed over. -/
theorem q_skip (hw : Region.wanted o (yielded ops a.tmps) = false) (h : wpQuiet P ops C Q rest (a.put o.dst undef)) : wpQuiet P ops C Q (o :: rest) a :=
  wpQuiet_step fun K hK => by rw [if_neg (by rw [hw]; exact Bool.false_ne_true)]; exact hK _ h

/-- An operation that is wanted: one value, in every world of the class. -/
theorem q_step (v : Value) (hw : Region.wanted o (yielded ops a.tmps) = true) (hv : ∀ w, C w → o.quietAt P a C w v) (h : wpQuiet P ops C Q rest (a.put o.dst v)) : wpQuiet P ops C Q (o :: rest) a :=
  wpQuiet_step fun K hK => by rw [if_pos hw]; exact ⟨v, hv, hK _ h⟩

/-- One that leaves the world as it is. -/
theorem q_val (v : Value) (hw : Region.wanted o (yielded ops a.tmps) = true) (hv : ∀ w, C w → (execOp a.eval o).run P w = .ok (.value v) w) (h : wpQuiet P ops C Q rest (a.put o.dst v)) : wpQuiet P ops C Q (o :: rest) a :=
  q_step v hw (fun w hC => by unfold Oper.quietAt; rw [hv w hC]; exact ⟨rfl, rfl⟩) h

/-- A load. -/
theorem q_load (T : TypeId) (x : Operand) (p v : Value) (ho : o.op = .load T x) (hw : Region.wanted o (yielded ops a.tmps) = true) (hp : a.eval x = p)
    (hv : ∀ w, C w → (Instr.loadAt T p).run P w = .ok v w) (h : wpQuiet P ops C Q rest (a.put o.dst v)) : wpQuiet P ops C Q (o :: rest) a :=
  q_val v hw (fun w hC => by
    unfold execOp
    rw [ho]
    simp only [hp, Sem.run_bind, hv w hC, Result.andThen_ok, Sem.run_pure]) h

/-- A call. -/
theorem q_call (f : FuncId) (args : Array Value) (v : Value) (hw : Region.wanted o (yielded ops a.tmps) = true) (he : ∀ w, (execOp a.eval o).run P w = .ok (.enter f args) w)
    (hv : ∀ w, C w → Calls P f args w fun e w' => e = .returned v ∧ C w') (h : wpQuiet P ops C Q rest (a.put o.dst v)) : wpQuiet P ops C Q (o :: rest) a :=
  q_step v hw (fun w hC => by unfold Oper.quietAt; rw [he w]; exact ⟨rfl, hv w hC⟩) h

/-- A comparison. -/
theorem q_bin (op : BinOp) (T : TypeId) (x y : Operand) (t : TypeId) (u v r : Value) (ho : o.op = .binOp op T x y t) (hw : Region.wanted o (yielded ops a.tmps) = true) (hx : a.eval x = u) (hy : a.eval y = v)
    (hg : ∀ w, (eqGuard op T x y u v).run P w = .ok () w) (hb : ∀ w, (binOp op T u v).run P w = .ok r w) (h : wpQuiet P ops C Q rest (a.put o.dst r)) : wpQuiet P ops C Q (o :: rest) a :=
  q_val r hw (fun w hC => by
    unfold execOp
    rw [ho]
    simp only [hx, hy, Sem.run_bind, hg w, hb w, Result.andThen_ok, Sem.run_pure]) h
end
end Go.Proofs.YtcmpnnfnkcmpcaaDoor
namespace Go.Proofs.YtcmpnnfnkcmpcaaDoor
open Go.RowKit

structure KBut (S : Nat) (w w' : World) : Prop where
  os : w'.os = w.os
  tape : w'.tape = w.tape
  output : w'.output = w.output
  size : w'.heap.size = w.heap.size
  block : ∀ k, k ≠ S → w'.heap[k]? = w.heap[k]?
  frozen : ∀ j, w'.frozen? ⟨S, j, none⟩ = w.frozen? ⟨S, j, none⟩
theorem KBut.refl (S : Nat) (w : World) : KBut S w w := ⟨rfl, rfl, rfl, rfl, fun _ _ => rfl, fun _ => rfl⟩
theorem KBut.set {S : Nat} {w w' : World} (h : KBut S w w') (j : Nat) (u : Value) : KBut S w (w'.setCell ⟨S, j, none⟩ u) :=
  ⟨h.os, h.tape, h.output, by simp [h.size], fun k hk => by rw [Below.heap_setCell _ _ _ _ hk]; exact h.block k hk, fun i => by rw [World.frozen?_setCell]; exact h.frozen i⟩
theorem KBut.trans {S : Nat} {w w' w'' : World} (h : KBut S w w') (h' : KBut S w' w'') : KBut S w w'' :=
  ⟨h'.os.trans h.os, h'.tape.trans h.tape, h'.output.trans h.output, h'.size.trans h.size, fun k hk => (h'.block k hk).trans (h.block k hk), fun j => (h'.frozen j).trans (h.frozen j)⟩
theorem KBut.cell {S : Nat} {w w' : World} (h : KBut S w w') {p : Addr} (hp : p.block ≠ S) : w'.cell? p = w.cell? p := World.cell?_of_block (w := w) (h.block p.block hp)
theorem KBut.below {S B : Nat} {w0 w w' : World} (h0 : Below B w0 w) (h : KBut S w w') (hB : B ≤ S) : Below B w0 w' :=
  h0.trans ⟨h.os, h.tape, h.output, by rw [h.size]; exact Nat.le_refl _, fun k hk => h.block k (by omega)⟩
theorem KBut.drew {S : Nat} {w w' : World} (h : KBut S w w') : KBut S w w'.drew := ⟨h.os, h.tape, h.output, h.size, h.block, h.frozen⟩
/-- 25 numbers ahead of a tail. -/
def kr (v : Nat → Int) (tl : Array Value) : Array Value := ar .u64 25 v ++ tl
theorem kr_at (v : Nat → Int) (tl : Array Value) (j : Nat) (h : j < 25) : (kr v tl)[j]? = some (.int .u64 (v j)) := by
  unfold kr
  rw [Array.getElem?_append_left (by rw [ar_size]; exact h)]
  exact ar_at _ _ _ _ h
theorem kr_set (v : Nat → Int) (tl : Array Value) (p : Nat) (y : Int) (h : p < 25) : (kr v tl).setIfInBounds p (.int .u64 y) = kr (updI v p y) tl := by
  unfold kr
  rw [← ar_set _ _ _ _ _ h, Array.setIfInBounds_append, if_pos (by rw [ar_size]; exact h)]
theorem kr_nil (v : Nat → Int) : kr v #[] = ar .u64 25 v := by simp [kr]
theorem kload (g j : Nat) (y : Int) (w : World) (h : w.cell? ⟨g, j, none⟩ = some (.int .u64 y)) : (Instr.loadAt 34 (.pointer (some ⟨g, j, none⟩))).run Tryd.prog w = .ok (.int .u64 y) w := by
  go_simp
/-- The worlds of the permutation: the block V holds these 25 ahead of the tail, the others are as they were. -/
structure CK (w : World) (V : Nat) (tt : TypeId) (tl : Array Value) (v : Nat → Int) (wx : World) : Prop where
  but : KBut V w wx
  row : wx.heap[V]? = some (.cells (kr v tl) tt (0, 0))
variable {w wx : World} {V : Nat} {tt : TypeId} {tl : Array Value} {v : Nat → Int}
theorem CK.drew (c : CK w V tt tl v wx) : CK w V tt tl v wx.drew := ⟨c.but.drew, c.row⟩
theorem CK.cell (c : CK w V tt tl v wx) (j : Nat) (hj : j < 25) : wx.cell? ⟨V, j, none⟩ = some (.int .u64 (v j)) :=
  (cell_of_row wx _ j _ _ _ c.row).trans (kr_at _ _ _ hj)
theorem CK.at' (c : CK w V tt tl v wx) (j : Nat) (hj : j < 25) (y : Int) (hy : v j = y) : (Instr.loadAt 34 (.pointer (some ⟨V, j, none⟩))).run Tryd.prog wx = .ok (.int .u64 y) wx := kload _ _ _ _ (by rw [← hy]; exact c.cell j hj)
theorem CK.set (c : CK w V tt tl v wx) (j : Nat) (hj : j < 25) (y : Int) : CK w V tt tl (updI v j y) (wx.setCell ⟨V, j, none⟩ (.int .u64 y)) :=
  ⟨c.but.set j _, (heap_setCell_same _ _ _ _ _ _ c.row).trans (by rw [kr_set _ _ _ _ hj])⟩
/-- The column x with a number laid over each of its five. -/
def xcv (v : Nat → Int) (x : Nat) (y : Int) (i : Nat) : Int := if i < 25 ∧ i % 5 = x then bits .xor .u64 (v i) y else v i
set_option maxRecDepth 100000 in
set_option maxHeartbeats 4000000 in
-- THE COLUMN 0.
theorem xcol0 (y : Int) (w : World) (hw : w.heap[V]? = some (.cells (kr v tl) tt (0, 0))) :
    Calls Tryd.prog 49 #[.pointer (some ⟨V, 0, none⟩), .int .i64 0, .int .u64 y] w fun e w' => e = .returned (.tuple #[]) ∧ CK w V tt tl (xcv v 0 y) w' := by
  have H0 := Lib.hid (show CK w V tt tl v w from ⟨KBut.refl _ _, hw⟩)
  clear hw
  go_enter Tryd.func49, Tryd.ntmps49
  -- region 0
  obtain ⟨Z0, hZ0⟩ : ∃ z, v 0 = z := ⟨_, rfl⟩
  go_wp2_with fail
  refine region_quiet_tail 9 (CK w V tt tl v) (by kernel_rfl) (by kernel_rfl) H0.out.drew ?_
  simp only [List.take_succ_cons, List.take_zero, List.drop_succ_cons, List.drop_zero]
  with_reducible refine q_val (.pointer (some ⟨V, 0, none⟩)) (by kernel_rfl) (fun _ _ => by kernel_rfl) ?_
  with_reducible refine q_val (.int .i64 0) (by kernel_rfl) (fun _ _ => by kernel_rfl) ?_
  with_reducible refine q_val (.pointer (some ⟨V, 0, none⟩)) (by kernel_rfl) (fun _ _ => by kernel_rfl) ?_
  with_reducible refine q_val (.pointer (some ⟨V, 0, none⟩)) (by kernel_rfl) (fun _ _ => by kernel_rfl) ?_
  with_reducible refine q_load 34 (.tmp 9) (.pointer (some ⟨V, 0, none⟩)) (.int .u64 Z0) rfl (by kernel_rfl) (by kernel_rfl) (fun _ h => h.at' 0 (by decide) _ hZ0) ?_
  with_reducible refine q_val (.int .u64 y) (by kernel_rfl) (fun _ _ => by kernel_rfl) ?_
  with_reducible refine q_val (.int .u64 (bits .xor .u64 Z0 y)) (by kernel_rfl) (fun _ _ => by kernel_rfl) ?_
  with_reducible refine q_val (.pointer (some ⟨V, 0, none⟩)) (by kernel_rfl) (fun _ _ => by kernel_rfl) ?_
  with_reducible refine q_val (.pointer (some ⟨V, 0, none⟩)) (by kernel_rfl) (fun _ _ => by kernel_rfl) ?_
  with_reducible refine wpQuiet_nil ?_
  intro w1 hCx
  simp only [Act.put, List.setIfInBounds_toArray, List.set_cons_succ, List.set_cons_zero]
  obtain ⟨Y0, hn0⟩ : ∃ z, bits .xor .u64 Z0 y = z := ⟨_, rfl⟩
  rw [hn0]
  have co0 := hCx.cell 0 (by decide)
  have fo0 := frozen_of_row _ _ 0 _ _ hCx.row
  have H1 := Lib.hid (hCx.set 0 (by decide) Y0)
  obtain ⟨v1, hv0⟩ : ∃ f, updI v 0 Y0 = f := ⟨_, rfl⟩
  rw [hv0] at H1
  clear hCx
  -- region 1
  obtain ⟨Z1, hZ1⟩ : ∃ z, v1 5 = z := ⟨_, rfl⟩
  go_wp2_with fail
  refine region_quiet_tail 10 (CK w V tt tl v1) (by kernel_rfl) (by kernel_rfl) H1.out.drew ?_
  simp only [List.take_succ_cons, List.take_zero, List.drop_succ_cons, List.drop_zero]
  with_reducible refine q_val (.pointer (some ⟨V, 0, none⟩)) (by kernel_rfl) (fun _ _ => by kernel_rfl) ?_
  with_reducible refine q_val (.int .i64 0) (by kernel_rfl) (fun _ _ => by kernel_rfl) ?_
  with_reducible refine q_val (.int .i64 5) (by kernel_rfl) (fun _ _ => by kernel_rfl) ?_
  with_reducible refine q_val (.pointer (some ⟨V, 0, none⟩)) (by kernel_rfl) (fun _ _ => by kernel_rfl) ?_
  with_reducible refine q_val (.pointer (some ⟨V, 5, none⟩)) (by kernel_rfl) (fun _ _ => by kernel_rfl) ?_
  with_reducible refine q_load 34 (.tmp 19) (.pointer (some ⟨V, 5, none⟩)) (.int .u64 Z1) rfl (by kernel_rfl) (by kernel_rfl) (fun _ h => h.at' 5 (by decide) _ hZ1) ?_
  with_reducible refine q_val (.int .u64 y) (by kernel_rfl) (fun _ _ => by kernel_rfl) ?_
  with_reducible refine q_val (.int .u64 (bits .xor .u64 Z1 y)) (by kernel_rfl) (fun _ _ => by kernel_rfl) ?_
  with_reducible refine q_val (.pointer (some ⟨V, 0, none⟩)) (by kernel_rfl) (fun _ _ => by kernel_rfl) ?_
  with_reducible refine q_val (.pointer (some ⟨V, 5, none⟩)) (by kernel_rfl) (fun _ _ => by kernel_rfl) ?_
  with_reducible refine wpQuiet_nil ?_
  intro w2 hCx
  simp only [Act.put, List.setIfInBounds_toArray, List.set_cons_succ, List.set_cons_zero]
  obtain ⟨Y1, hn1⟩ : ∃ z, bits .xor .u64 Z1 y = z := ⟨_, rfl⟩
  rw [hn1]
  have co1 := hCx.cell 5 (by decide)
  have fo1 := frozen_of_row _ _ 5 _ _ hCx.row
  have H2 := Lib.hid (hCx.set 5 (by decide) Y1)
  obtain ⟨v2, hv1⟩ : ∃ f, updI v1 5 Y1 = f := ⟨_, rfl⟩
  rw [hv1] at H2
  clear hCx
  -- region 2
  obtain ⟨Z2, hZ2⟩ : ∃ z, v2 10 = z := ⟨_, rfl⟩
  go_wp2_with fail
  refine region_quiet_tail 10 (CK w V tt tl v2) (by kernel_rfl) (by kernel_rfl) H2.out.drew ?_
  simp only [List.take_succ_cons, List.take_zero, List.drop_succ_cons, List.drop_zero]
  with_reducible refine q_val (.pointer (some ⟨V, 0, none⟩)) (by kernel_rfl) (fun _ _ => by kernel_rfl) ?_
  with_reducible refine q_val (.int .i64 0) (by kernel_rfl) (fun _ _ => by kernel_rfl) ?_
  with_reducible refine q_val (.int .i64 10) (by kernel_rfl) (fun _ _ => by kernel_rfl) ?_
  with_reducible refine q_val (.pointer (some ⟨V, 0, none⟩)) (by kernel_rfl) (fun _ _ => by kernel_rfl) ?_
  with_reducible refine q_val (.pointer (some ⟨V, 10, none⟩)) (by kernel_rfl) (fun _ _ => by kernel_rfl) ?_
  with_reducible refine q_load 34 (.tmp 29) (.pointer (some ⟨V, 10, none⟩)) (.int .u64 Z2) rfl (by kernel_rfl) (by kernel_rfl) (fun _ h => h.at' 10 (by decide) _ hZ2) ?_
  with_reducible refine q_val (.int .u64 y) (by kernel_rfl) (fun _ _ => by kernel_rfl) ?_
  with_reducible refine q_val (.int .u64 (bits .xor .u64 Z2 y)) (by kernel_rfl) (fun _ _ => by kernel_rfl) ?_
  with_reducible refine q_val (.pointer (some ⟨V, 0, none⟩)) (by kernel_rfl) (fun _ _ => by kernel_rfl) ?_
  with_reducible refine q_val (.pointer (some ⟨V, 10, none⟩)) (by kernel_rfl) (fun _ _ => by kernel_rfl) ?_
  with_reducible refine wpQuiet_nil ?_
  intro w3 hCx
  simp only [Act.put, List.setIfInBounds_toArray, List.set_cons_succ, List.set_cons_zero]
  obtain ⟨Y2, hn2⟩ : ∃ z, bits .xor .u64 Z2 y = z := ⟨_, rfl⟩
  rw [hn2]
  have co2 := hCx.cell 10 (by decide)
  have fo2 := frozen_of_row _ _ 10 _ _ hCx.row
  have H3 := Lib.hid (hCx.set 10 (by decide) Y2)
  obtain ⟨v3, hv2⟩ : ∃ f, updI v2 10 Y2 = f := ⟨_, rfl⟩
  rw [hv2] at H3
  clear hCx
  -- region 3
  obtain ⟨Z3, hZ3⟩ : ∃ z, v3 15 = z := ⟨_, rfl⟩
  go_wp2_with fail
  refine region_quiet_tail 10 (CK w V tt tl v3) (by kernel_rfl) (by kernel_rfl) H3.out.drew ?_
  simp only [List.take_succ_cons, List.take_zero, List.drop_succ_cons, List.drop_zero]
  with_reducible refine q_val (.pointer (some ⟨V, 0, none⟩)) (by kernel_rfl) (fun _ _ => by kernel_rfl) ?_
  with_reducible refine q_val (.int .i64 0) (by kernel_rfl) (fun _ _ => by kernel_rfl) ?_
  with_reducible refine q_val (.int .i64 15) (by kernel_rfl) (fun _ _ => by kernel_rfl) ?_
  with_reducible refine q_val (.pointer (some ⟨V, 0, none⟩)) (by kernel_rfl) (fun _ _ => by kernel_rfl) ?_
  with_reducible refine q_val (.pointer (some ⟨V, 15, none⟩)) (by kernel_rfl) (fun _ _ => by kernel_rfl) ?_
  with_reducible refine q_load 34 (.tmp 39) (.pointer (some ⟨V, 15, none⟩)) (.int .u64 Z3) rfl (by kernel_rfl) (by kernel_rfl) (fun _ h => h.at' 15 (by decide) _ hZ3) ?_
  with_reducible refine q_val (.int .u64 y) (by kernel_rfl) (fun _ _ => by kernel_rfl) ?_
  with_reducible refine q_val (.int .u64 (bits .xor .u64 Z3 y)) (by kernel_rfl) (fun _ _ => by kernel_rfl) ?_
  with_reducible refine q_val (.pointer (some ⟨V, 0, none⟩)) (by kernel_rfl) (fun _ _ => by kernel_rfl) ?_
  with_reducible refine q_val (.pointer (some ⟨V, 15, none⟩)) (by kernel_rfl) (fun _ _ => by kernel_rfl) ?_
  with_reducible refine wpQuiet_nil ?_
  intro w4 hCx
  simp only [Act.put, List.setIfInBounds_toArray, List.set_cons_succ, List.set_cons_zero]
  obtain ⟨Y3, hn3⟩ : ∃ z, bits .xor .u64 Z3 y = z := ⟨_, rfl⟩
  rw [hn3]
  have co3 := hCx.cell 15 (by decide)
  have fo3 := frozen_of_row _ _ 15 _ _ hCx.row
  have H4 := Lib.hid (hCx.set 15 (by decide) Y3)
  obtain ⟨v4, hv3⟩ : ∃ f, updI v3 15 Y3 = f := ⟨_, rfl⟩
  rw [hv3] at H4
  clear hCx
  -- region 4
  obtain ⟨Z4, hZ4⟩ : ∃ z, v4 20 = z := ⟨_, rfl⟩
  go_wp2_with fail
  refine region_quiet_tail 10 (CK w V tt tl v4) (by kernel_rfl) (by kernel_rfl) H4.out.drew ?_
  simp only [List.take_succ_cons, List.take_zero, List.drop_succ_cons, List.drop_zero]
  with_reducible refine q_val (.pointer (some ⟨V, 0, none⟩)) (by kernel_rfl) (fun _ _ => by kernel_rfl) ?_
  with_reducible refine q_val (.int .i64 0) (by kernel_rfl) (fun _ _ => by kernel_rfl) ?_
  with_reducible refine q_val (.int .i64 20) (by kernel_rfl) (fun _ _ => by kernel_rfl) ?_
  with_reducible refine q_val (.pointer (some ⟨V, 0, none⟩)) (by kernel_rfl) (fun _ _ => by kernel_rfl) ?_
  with_reducible refine q_val (.pointer (some ⟨V, 20, none⟩)) (by kernel_rfl) (fun _ _ => by kernel_rfl) ?_
  with_reducible refine q_load 34 (.tmp 49) (.pointer (some ⟨V, 20, none⟩)) (.int .u64 Z4) rfl (by kernel_rfl) (by kernel_rfl) (fun _ h => h.at' 20 (by decide) _ hZ4) ?_
  with_reducible refine q_val (.int .u64 y) (by kernel_rfl) (fun _ _ => by kernel_rfl) ?_
  with_reducible refine q_val (.int .u64 (bits .xor .u64 Z4 y)) (by kernel_rfl) (fun _ _ => by kernel_rfl) ?_
  with_reducible refine q_val (.pointer (some ⟨V, 0, none⟩)) (by kernel_rfl) (fun _ _ => by kernel_rfl) ?_
  with_reducible refine q_val (.pointer (some ⟨V, 20, none⟩)) (by kernel_rfl) (fun _ _ => by kernel_rfl) ?_
  with_reducible refine wpQuiet_nil ?_
  intro w5 hCx
  simp only [Act.put, List.setIfInBounds_toArray, List.set_cons_succ, List.set_cons_zero]
  obtain ⟨Y4, hn4⟩ : ∃ z, bits .xor .u64 Z4 y = z := ⟨_, rfl⟩
  rw [hn4]
  have co4 := hCx.cell 20 (by decide)
  have fo4 := frozen_of_row _ _ 20 _ _ hCx.row
  have H5 := Lib.hid (hCx.set 20 (by decide) Y4)
  obtain ⟨v5, hv4⟩ : ∃ f, updI v4 20 Y4 = f := ⟨_, rfl⟩
  rw [hv4] at H5
  clear hCx
  have hv : v5 = xcv v 0 y := by
    funext i
    subst hn0 hn1 hn2 hn3 hn4
    subst hZ0 hZ1 hZ2 hZ3 hZ4
    subst hv0 hv1 hv2 hv3 hv4
    unfold xcv updI
    by_cases h : i < 25 ∧ i % 5 = 0
    · rw [if_pos h]
      have hc : i = 0 ∨ i = 5 ∨ i = 10 ∨ i = 15 ∨ i = 20 := by omega
      rcases hc with rfl | rfl | rfl | rfl | rfl <;> rfl
    · rw [if_neg h, if_neg (by omega), if_neg (by omega), if_neg (by omega), if_neg (by omega), if_neg (by omega)]
  rw [hv] at H5
  go_wp2_with fail
  go_end0
  exact ⟨rfl, H5.out⟩
set_option maxRecDepth 100000 in
set_option maxHeartbeats 4000000 in
-- THE COLUMN 1.
theorem xcol1 (y : Int) (w : World) (hw : w.heap[V]? = some (.cells (kr v tl) tt (0, 0))) :
    Calls Tryd.prog 49 #[.pointer (some ⟨V, 0, none⟩), .int .i64 1, .int .u64 y] w fun e w' => e = .returned (.tuple #[]) ∧ CK w V tt tl (xcv v 1 y) w' := by
  have H0 := Lib.hid (show CK w V tt tl v w from ⟨KBut.refl _ _, hw⟩)
  clear hw
  go_enter Tryd.func49, Tryd.ntmps49
  -- region 0
  obtain ⟨Z0, hZ0⟩ : ∃ z, v 1 = z := ⟨_, rfl⟩
  go_wp2_with fail
  refine region_quiet_tail 9 (CK w V tt tl v) (by kernel_rfl) (by kernel_rfl) H0.out.drew ?_
  simp only [List.take_succ_cons, List.take_zero, List.drop_succ_cons, List.drop_zero]
  with_reducible refine q_val (.pointer (some ⟨V, 0, none⟩)) (by kernel_rfl) (fun _ _ => by kernel_rfl) ?_
  with_reducible refine q_val (.int .i64 1) (by kernel_rfl) (fun _ _ => by kernel_rfl) ?_
  with_reducible refine q_val (.pointer (some ⟨V, 0, none⟩)) (by kernel_rfl) (fun _ _ => by kernel_rfl) ?_
  with_reducible refine q_val (.pointer (some ⟨V, 1, none⟩)) (by kernel_rfl) (fun _ _ => by kernel_rfl) ?_
  with_reducible refine q_load 34 (.tmp 9) (.pointer (some ⟨V, 1, none⟩)) (.int .u64 Z0) rfl (by kernel_rfl) (by kernel_rfl) (fun _ h => h.at' 1 (by decide) _ hZ0) ?_
  with_reducible refine q_val (.int .u64 y) (by kernel_rfl) (fun _ _ => by kernel_rfl) ?_
  with_reducible refine q_val (.int .u64 (bits .xor .u64 Z0 y)) (by kernel_rfl) (fun _ _ => by kernel_rfl) ?_
  with_reducible refine q_val (.pointer (some ⟨V, 0, none⟩)) (by kernel_rfl) (fun _ _ => by kernel_rfl) ?_
  with_reducible refine q_val (.pointer (some ⟨V, 1, none⟩)) (by kernel_rfl) (fun _ _ => by kernel_rfl) ?_
  with_reducible refine wpQuiet_nil ?_
  intro w1 hCx
  simp only [Act.put, List.setIfInBounds_toArray, List.set_cons_succ, List.set_cons_zero]
  obtain ⟨Y0, hn0⟩ : ∃ z, bits .xor .u64 Z0 y = z := ⟨_, rfl⟩
  rw [hn0]
  have co0 := hCx.cell 1 (by decide)
  have fo0 := frozen_of_row _ _ 1 _ _ hCx.row
  have H1 := Lib.hid (hCx.set 1 (by decide) Y0)
  obtain ⟨v1, hv0⟩ : ∃ f, updI v 1 Y0 = f := ⟨_, rfl⟩
  rw [hv0] at H1
  clear hCx
  -- region 1
  obtain ⟨Z1, hZ1⟩ : ∃ z, v1 6 = z := ⟨_, rfl⟩
  go_wp2_with fail
  refine region_quiet_tail 10 (CK w V tt tl v1) (by kernel_rfl) (by kernel_rfl) H1.out.drew ?_
  simp only [List.take_succ_cons, List.take_zero, List.drop_succ_cons, List.drop_zero]
  with_reducible refine q_val (.pointer (some ⟨V, 0, none⟩)) (by kernel_rfl) (fun _ _ => by kernel_rfl) ?_
  with_reducible refine q_val (.int .i64 1) (by kernel_rfl) (fun _ _ => by kernel_rfl) ?_
  with_reducible refine q_val (.int .i64 6) (by kernel_rfl) (fun _ _ => by kernel_rfl) ?_
  with_reducible refine q_val (.pointer (some ⟨V, 0, none⟩)) (by kernel_rfl) (fun _ _ => by kernel_rfl) ?_
  with_reducible refine q_val (.pointer (some ⟨V, 6, none⟩)) (by kernel_rfl) (fun _ _ => by kernel_rfl) ?_
  with_reducible refine q_load 34 (.tmp 19) (.pointer (some ⟨V, 6, none⟩)) (.int .u64 Z1) rfl (by kernel_rfl) (by kernel_rfl) (fun _ h => h.at' 6 (by decide) _ hZ1) ?_
  with_reducible refine q_val (.int .u64 y) (by kernel_rfl) (fun _ _ => by kernel_rfl) ?_
  with_reducible refine q_val (.int .u64 (bits .xor .u64 Z1 y)) (by kernel_rfl) (fun _ _ => by kernel_rfl) ?_
  with_reducible refine q_val (.pointer (some ⟨V, 0, none⟩)) (by kernel_rfl) (fun _ _ => by kernel_rfl) ?_
  with_reducible refine q_val (.pointer (some ⟨V, 6, none⟩)) (by kernel_rfl) (fun _ _ => by kernel_rfl) ?_
  with_reducible refine wpQuiet_nil ?_
  intro w2 hCx
  simp only [Act.put, List.setIfInBounds_toArray, List.set_cons_succ, List.set_cons_zero]
  obtain ⟨Y1, hn1⟩ : ∃ z, bits .xor .u64 Z1 y = z := ⟨_, rfl⟩
  rw [hn1]
  have co1 := hCx.cell 6 (by decide)
  have fo1 := frozen_of_row _ _ 6 _ _ hCx.row
  have H2 := Lib.hid (hCx.set 6 (by decide) Y1)
  obtain ⟨v2, hv1⟩ : ∃ f, updI v1 6 Y1 = f := ⟨_, rfl⟩
  rw [hv1] at H2
  clear hCx
  -- region 2
  obtain ⟨Z2, hZ2⟩ : ∃ z, v2 11 = z := ⟨_, rfl⟩
  go_wp2_with fail
  refine region_quiet_tail 10 (CK w V tt tl v2) (by kernel_rfl) (by kernel_rfl) H2.out.drew ?_
  simp only [List.take_succ_cons, List.take_zero, List.drop_succ_cons, List.drop_zero]
  with_reducible refine q_val (.pointer (some ⟨V, 0, none⟩)) (by kernel_rfl) (fun _ _ => by kernel_rfl) ?_
  with_reducible refine q_val (.int .i64 1) (by kernel_rfl) (fun _ _ => by kernel_rfl) ?_
  with_reducible refine q_val (.int .i64 11) (by kernel_rfl) (fun _ _ => by kernel_rfl) ?_
  with_reducible refine q_val (.pointer (some ⟨V, 0, none⟩)) (by kernel_rfl) (fun _ _ => by kernel_rfl) ?_
  with_reducible refine q_val (.pointer (some ⟨V, 11, none⟩)) (by kernel_rfl) (fun _ _ => by kernel_rfl) ?_
  with_reducible refine q_load 34 (.tmp 29) (.pointer (some ⟨V, 11, none⟩)) (.int .u64 Z2) rfl (by kernel_rfl) (by kernel_rfl) (fun _ h => h.at' 11 (by decide) _ hZ2) ?_
  with_reducible refine q_val (.int .u64 y) (by kernel_rfl) (fun _ _ => by kernel_rfl) ?_
  with_reducible refine q_val (.int .u64 (bits .xor .u64 Z2 y)) (by kernel_rfl) (fun _ _ => by kernel_rfl) ?_
  with_reducible refine q_val (.pointer (some ⟨V, 0, none⟩)) (by kernel_rfl) (fun _ _ => by kernel_rfl) ?_
  with_reducible refine q_val (.pointer (some ⟨V, 11, none⟩)) (by kernel_rfl) (fun _ _ => by kernel_rfl) ?_
  with_reducible refine wpQuiet_nil ?_
  intro w3 hCx
  simp only [Act.put, List.setIfInBounds_toArray, List.set_cons_succ, List.set_cons_zero]
  obtain ⟨Y2, hn2⟩ : ∃ z, bits .xor .u64 Z2 y = z := ⟨_, rfl⟩
  rw [hn2]
  have co2 := hCx.cell 11 (by decide)
  have fo2 := frozen_of_row _ _ 11 _ _ hCx.row
  have H3 := Lib.hid (hCx.set 11 (by decide) Y2)
  obtain ⟨v3, hv2⟩ : ∃ f, updI v2 11 Y2 = f := ⟨_, rfl⟩
  rw [hv2] at H3
  clear hCx
  -- region 3
  obtain ⟨Z3, hZ3⟩ : ∃ z, v3 16 = z := ⟨_, rfl⟩
  go_wp2_with fail
  refine region_quiet_tail 10 (CK w V tt tl v3) (by kernel_rfl) (by kernel_rfl) H3.out.drew ?_
  simp only [List.take_succ_cons, List.take_zero, List.drop_succ_cons, List.drop_zero]
  with_reducible refine q_val (.pointer (some ⟨V, 0, none⟩)) (by kernel_rfl) (fun _ _ => by kernel_rfl) ?_
  with_reducible refine q_val (.int .i64 1) (by kernel_rfl) (fun _ _ => by kernel_rfl) ?_
  with_reducible refine q_val (.int .i64 16) (by kernel_rfl) (fun _ _ => by kernel_rfl) ?_
  with_reducible refine q_val (.pointer (some ⟨V, 0, none⟩)) (by kernel_rfl) (fun _ _ => by kernel_rfl) ?_
  with_reducible refine q_val (.pointer (some ⟨V, 16, none⟩)) (by kernel_rfl) (fun _ _ => by kernel_rfl) ?_
  with_reducible refine q_load 34 (.tmp 39) (.pointer (some ⟨V, 16, none⟩)) (.int .u64 Z3) rfl (by kernel_rfl) (by kernel_rfl) (fun _ h => h.at' 16 (by decide) _ hZ3) ?_
  with_reducible refine q_val (.int .u64 y) (by kernel_rfl) (fun _ _ => by kernel_rfl) ?_
  with_reducible refine q_val (.int .u64 (bits .xor .u64 Z3 y)) (by kernel_rfl) (fun _ _ => by kernel_rfl) ?_
  with_reducible refine q_val (.pointer (some ⟨V, 0, none⟩)) (by kernel_rfl) (fun _ _ => by kernel_rfl) ?_
  with_reducible refine q_val (.pointer (some ⟨V, 16, none⟩)) (by kernel_rfl) (fun _ _ => by kernel_rfl) ?_
  with_reducible refine wpQuiet_nil ?_
  intro w4 hCx
  simp only [Act.put, List.setIfInBounds_toArray, List.set_cons_succ, List.set_cons_zero]
  obtain ⟨Y3, hn3⟩ : ∃ z, bits .xor .u64 Z3 y = z := ⟨_, rfl⟩
  rw [hn3]
  have co3 := hCx.cell 16 (by decide)
  have fo3 := frozen_of_row _ _ 16 _ _ hCx.row
  have H4 := Lib.hid (hCx.set 16 (by decide) Y3)
  obtain ⟨v4, hv3⟩ : ∃ f, updI v3 16 Y3 = f := ⟨_, rfl⟩
  rw [hv3] at H4
  clear hCx
  -- region 4
  obtain ⟨Z4, hZ4⟩ : ∃ z, v4 21 = z := ⟨_, rfl⟩
  go_wp2_with fail
  refine region_quiet_tail 10 (CK w V tt tl v4) (by kernel_rfl) (by kernel_rfl) H4.out.drew ?_
  simp only [List.take_succ_cons, List.take_zero, List.drop_succ_cons, List.drop_zero]
  with_reducible refine q_val (.pointer (some ⟨V, 0, none⟩)) (by kernel_rfl) (fun _ _ => by kernel_rfl) ?_
  with_reducible refine q_val (.int .i64 1) (by kernel_rfl) (fun _ _ => by kernel_rfl) ?_
  with_reducible refine q_val (.int .i64 21) (by kernel_rfl) (fun _ _ => by kernel_rfl) ?_
  with_reducible refine q_val (.pointer (some ⟨V, 0, none⟩)) (by kernel_rfl) (fun _ _ => by kernel_rfl) ?_
  with_reducible refine q_val (.pointer (some ⟨V, 21, none⟩)) (by kernel_rfl) (fun _ _ => by kernel_rfl) ?_
  with_reducible refine q_load 34 (.tmp 49) (.pointer (some ⟨V, 21, none⟩)) (.int .u64 Z4) rfl (by kernel_rfl) (by kernel_rfl) (fun _ h => h.at' 21 (by decide) _ hZ4) ?_
  with_reducible refine q_val (.int .u64 y) (by kernel_rfl) (fun _ _ => by kernel_rfl) ?_
  with_reducible refine q_val (.int .u64 (bits .xor .u64 Z4 y)) (by kernel_rfl) (fun _ _ => by kernel_rfl) ?_
  with_reducible refine q_val (.pointer (some ⟨V, 0, none⟩)) (by kernel_rfl) (fun _ _ => by kernel_rfl) ?_
  with_reducible refine q_val (.pointer (some ⟨V, 21, none⟩)) (by kernel_rfl) (fun _ _ => by kernel_rfl) ?_
  with_reducible refine wpQuiet_nil ?_
  intro w5 hCx
  simp only [Act.put, List.setIfInBounds_toArray, List.set_cons_succ, List.set_cons_zero]
  obtain ⟨Y4, hn4⟩ : ∃ z, bits .xor .u64 Z4 y = z := ⟨_, rfl⟩
  rw [hn4]
  have co4 := hCx.cell 21 (by decide)
  have fo4 := frozen_of_row _ _ 21 _ _ hCx.row
  have H5 := Lib.hid (hCx.set 21 (by decide) Y4)
  obtain ⟨v5, hv4⟩ : ∃ f, updI v4 21 Y4 = f := ⟨_, rfl⟩
  rw [hv4] at H5
  clear hCx
  have hv : v5 = xcv v 1 y := by
    funext i
    subst hn0 hn1 hn2 hn3 hn4
    subst hZ0 hZ1 hZ2 hZ3 hZ4
    subst hv0 hv1 hv2 hv3 hv4
    unfold xcv updI
    by_cases h : i < 25 ∧ i % 5 = 1
    · rw [if_pos h]
      have hc : i = 1 ∨ i = 6 ∨ i = 11 ∨ i = 16 ∨ i = 21 := by omega
      rcases hc with rfl | rfl | rfl | rfl | rfl <;> rfl
    · rw [if_neg h, if_neg (by omega), if_neg (by omega), if_neg (by omega), if_neg (by omega), if_neg (by omega)]
  rw [hv] at H5
  go_wp2_with fail
  go_end0
  exact ⟨rfl, H5.out⟩
set_option maxRecDepth 100000 in
set_option maxHeartbeats 4000000 in
-- THE COLUMN 2.
theorem xcol2 (y : Int) (w : World) (hw : w.heap[V]? = some (.cells (kr v tl) tt (0, 0))) :
    Calls Tryd.prog 49 #[.pointer (some ⟨V, 0, none⟩), .int .i64 2, .int .u64 y] w fun e w' => e = .returned (.tuple #[]) ∧ CK w V tt tl (xcv v 2 y) w' := by
  have H0 := Lib.hid (show CK w V tt tl v w from ⟨KBut.refl _ _, hw⟩)
  clear hw
  go_enter Tryd.func49, Tryd.ntmps49
  -- region 0
  obtain ⟨Z0, hZ0⟩ : ∃ z, v 2 = z := ⟨_, rfl⟩
  go_wp2_with fail
  refine region_quiet_tail 9 (CK w V tt tl v) (by kernel_rfl) (by kernel_rfl) H0.out.drew ?_
  simp only [List.take_succ_cons, List.take_zero, List.drop_succ_cons, List.drop_zero]
  with_reducible refine q_val (.pointer (some ⟨V, 0, none⟩)) (by kernel_rfl) (fun _ _ => by kernel_rfl) ?_
  with_reducible refine q_val (.int .i64 2) (by kernel_rfl) (fun _ _ => by kernel_rfl) ?_
  with_reducible refine q_val (.pointer (some ⟨V, 0, none⟩)) (by kernel_rfl) (fun _ _ => by kernel_rfl) ?_
  with_reducible refine q_val (.pointer (some ⟨V, 2, none⟩)) (by kernel_rfl) (fun _ _ => by kernel_rfl) ?_
  with_reducible refine q_load 34 (.tmp 9) (.pointer (some ⟨V, 2, none⟩)) (.int .u64 Z0) rfl (by kernel_rfl) (by kernel_rfl) (fun _ h => h.at' 2 (by decide) _ hZ0) ?_
  with_reducible refine q_val (.int .u64 y) (by kernel_rfl) (fun _ _ => by kernel_rfl) ?_
  with_reducible refine q_val (.int .u64 (bits .xor .u64 Z0 y)) (by kernel_rfl) (fun _ _ => by kernel_rfl) ?_
  with_reducible refine q_val (.pointer (some ⟨V, 0, none⟩)) (by kernel_rfl) (fun _ _ => by kernel_rfl) ?_
  with_reducible refine q_val (.pointer (some ⟨V, 2, none⟩)) (by kernel_rfl) (fun _ _ => by kernel_rfl) ?_
  with_reducible refine wpQuiet_nil ?_
  intro w1 hCx
  simp only [Act.put, List.setIfInBounds_toArray, List.set_cons_succ, List.set_cons_zero]
  obtain ⟨Y0, hn0⟩ : ∃ z, bits .xor .u64 Z0 y = z := ⟨_, rfl⟩
  rw [hn0]
  have co0 := hCx.cell 2 (by decide)
  have fo0 := frozen_of_row _ _ 2 _ _ hCx.row
  have H1 := Lib.hid (hCx.set 2 (by decide) Y0)
  obtain ⟨v1, hv0⟩ : ∃ f, updI v 2 Y0 = f := ⟨_, rfl⟩
  rw [hv0] at H1
  clear hCx
  -- region 1
  obtain ⟨Z1, hZ1⟩ : ∃ z, v1 7 = z := ⟨_, rfl⟩
  go_wp2_with fail
  refine region_quiet_tail 10 (CK w V tt tl v1) (by kernel_rfl) (by kernel_rfl) H1.out.drew ?_
  simp only [List.take_succ_cons, List.take_zero, List.drop_succ_cons, List.drop_zero]
  with_reducible refine q_val (.pointer (some ⟨V, 0, none⟩)) (by kernel_rfl) (fun _ _ => by kernel_rfl) ?_
  with_reducible refine q_val (.int .i64 2) (by kernel_rfl) (fun _ _ => by kernel_rfl) ?_
  with_reducible refine q_val (.int .i64 7) (by kernel_rfl) (fun _ _ => by kernel_rfl) ?_
  with_reducible refine q_val (.pointer (some ⟨V, 0, none⟩)) (by kernel_rfl) (fun _ _ => by kernel_rfl) ?_
  with_reducible refine q_val (.pointer (some ⟨V, 7, none⟩)) (by kernel_rfl) (fun _ _ => by kernel_rfl) ?_
  with_reducible refine q_load 34 (.tmp 19) (.pointer (some ⟨V, 7, none⟩)) (.int .u64 Z1) rfl (by kernel_rfl) (by kernel_rfl) (fun _ h => h.at' 7 (by decide) _ hZ1) ?_
  with_reducible refine q_val (.int .u64 y) (by kernel_rfl) (fun _ _ => by kernel_rfl) ?_
  with_reducible refine q_val (.int .u64 (bits .xor .u64 Z1 y)) (by kernel_rfl) (fun _ _ => by kernel_rfl) ?_
  with_reducible refine q_val (.pointer (some ⟨V, 0, none⟩)) (by kernel_rfl) (fun _ _ => by kernel_rfl) ?_
  with_reducible refine q_val (.pointer (some ⟨V, 7, none⟩)) (by kernel_rfl) (fun _ _ => by kernel_rfl) ?_
  with_reducible refine wpQuiet_nil ?_
  intro w2 hCx
  simp only [Act.put, List.setIfInBounds_toArray, List.set_cons_succ, List.set_cons_zero]
  obtain ⟨Y1, hn1⟩ : ∃ z, bits .xor .u64 Z1 y = z := ⟨_, rfl⟩
  rw [hn1]
  have co1 := hCx.cell 7 (by decide)
  have fo1 := frozen_of_row _ _ 7 _ _ hCx.row
  have H2 := Lib.hid (hCx.set 7 (by decide) Y1)
  obtain ⟨v2, hv1⟩ : ∃ f, updI v1 7 Y1 = f := ⟨_, rfl⟩
  rw [hv1] at H2
  clear hCx
  -- region 2
  obtain ⟨Z2, hZ2⟩ : ∃ z, v2 12 = z := ⟨_, rfl⟩
  go_wp2_with fail
  refine region_quiet_tail 10 (CK w V tt tl v2) (by kernel_rfl) (by kernel_rfl) H2.out.drew ?_
  simp only [List.take_succ_cons, List.take_zero, List.drop_succ_cons, List.drop_zero]
  with_reducible refine q_val (.pointer (some ⟨V, 0, none⟩)) (by kernel_rfl) (fun _ _ => by kernel_rfl) ?_
  with_reducible refine q_val (.int .i64 2) (by kernel_rfl) (fun _ _ => by kernel_rfl) ?_
  with_reducible refine q_val (.int .i64 12) (by kernel_rfl) (fun _ _ => by kernel_rfl) ?_
  with_reducible refine q_val (.pointer (some ⟨V, 0, none⟩)) (by kernel_rfl) (fun _ _ => by kernel_rfl) ?_
  with_reducible refine q_val (.pointer (some ⟨V, 12, none⟩)) (by kernel_rfl) (fun _ _ => by kernel_rfl) ?_
  with_reducible refine q_load 34 (.tmp 29) (.pointer (some ⟨V, 12, none⟩)) (.int .u64 Z2) rfl (by kernel_rfl) (by kernel_rfl) (fun _ h => h.at' 12 (by decide) _ hZ2) ?_
  with_reducible refine q_val (.int .u64 y) (by kernel_rfl) (fun _ _ => by kernel_rfl) ?_
  with_reducible refine q_val (.int .u64 (bits .xor .u64 Z2 y)) (by kernel_rfl) (fun _ _ => by kernel_rfl) ?_
  with_reducible refine q_val (.pointer (some ⟨V, 0, none⟩)) (by kernel_rfl) (fun _ _ => by kernel_rfl) ?_
  with_reducible refine q_val (.pointer (some ⟨V, 12, none⟩)) (by kernel_rfl) (fun _ _ => by kernel_rfl) ?_
  with_reducible refine wpQuiet_nil ?_
  intro w3 hCx
  simp only [Act.put, List.setIfInBounds_toArray, List.set_cons_succ, List.set_cons_zero]
  obtain ⟨Y2, hn2⟩ : ∃ z, bits .xor .u64 Z2 y = z := ⟨_, rfl⟩
  rw [hn2]
  have co2 := hCx.cell 12 (by decide)
  have fo2 := frozen_of_row _ _ 12 _ _ hCx.row
  have H3 := Lib.hid (hCx.set 12 (by decide) Y2)
  obtain ⟨v3, hv2⟩ : ∃ f, updI v2 12 Y2 = f := ⟨_, rfl⟩
  rw [hv2] at H3
  clear hCx
  -- region 3
  obtain ⟨Z3, hZ3⟩ : ∃ z, v3 17 = z := ⟨_, rfl⟩
  go_wp2_with fail
  refine region_quiet_tail 10 (CK w V tt tl v3) (by kernel_rfl) (by kernel_rfl) H3.out.drew ?_
  simp only [List.take_succ_cons, List.take_zero, List.drop_succ_cons, List.drop_zero]
  with_reducible refine q_val (.pointer (some ⟨V, 0, none⟩)) (by kernel_rfl) (fun _ _ => by kernel_rfl) ?_
  with_reducible refine q_val (.int .i64 2) (by kernel_rfl) (fun _ _ => by kernel_rfl) ?_
  with_reducible refine q_val (.int .i64 17) (by kernel_rfl) (fun _ _ => by kernel_rfl) ?_
  with_reducible refine q_val (.pointer (some ⟨V, 0, none⟩)) (by kernel_rfl) (fun _ _ => by kernel_rfl) ?_
  with_reducible refine q_val (.pointer (some ⟨V, 17, none⟩)) (by kernel_rfl) (fun _ _ => by kernel_rfl) ?_
  with_reducible refine q_load 34 (.tmp 39) (.pointer (some ⟨V, 17, none⟩)) (.int .u64 Z3) rfl (by kernel_rfl) (by kernel_rfl) (fun _ h => h.at' 17 (by decide) _ hZ3) ?_
  with_reducible refine q_val (.int .u64 y) (by kernel_rfl) (fun _ _ => by kernel_rfl) ?_
  with_reducible refine q_val (.int .u64 (bits .xor .u64 Z3 y)) (by kernel_rfl) (fun _ _ => by kernel_rfl) ?_
  with_reducible refine q_val (.pointer (some ⟨V, 0, none⟩)) (by kernel_rfl) (fun _ _ => by kernel_rfl) ?_
  with_reducible refine q_val (.pointer (some ⟨V, 17, none⟩)) (by kernel_rfl) (fun _ _ => by kernel_rfl) ?_
  with_reducible refine wpQuiet_nil ?_
  intro w4 hCx
  simp only [Act.put, List.setIfInBounds_toArray, List.set_cons_succ, List.set_cons_zero]
  obtain ⟨Y3, hn3⟩ : ∃ z, bits .xor .u64 Z3 y = z := ⟨_, rfl⟩
  rw [hn3]
  have co3 := hCx.cell 17 (by decide)
  have fo3 := frozen_of_row _ _ 17 _ _ hCx.row
  have H4 := Lib.hid (hCx.set 17 (by decide) Y3)
  obtain ⟨v4, hv3⟩ : ∃ f, updI v3 17 Y3 = f := ⟨_, rfl⟩
  rw [hv3] at H4
  clear hCx
  -- region 4
  obtain ⟨Z4, hZ4⟩ : ∃ z, v4 22 = z := ⟨_, rfl⟩
  go_wp2_with fail
  refine region_quiet_tail 10 (CK w V tt tl v4) (by kernel_rfl) (by kernel_rfl) H4.out.drew ?_
  simp only [List.take_succ_cons, List.take_zero, List.drop_succ_cons, List.drop_zero]
  with_reducible refine q_val (.pointer (some ⟨V, 0, none⟩)) (by kernel_rfl) (fun _ _ => by kernel_rfl) ?_
  with_reducible refine q_val (.int .i64 2) (by kernel_rfl) (fun _ _ => by kernel_rfl) ?_
  with_reducible refine q_val (.int .i64 22) (by kernel_rfl) (fun _ _ => by kernel_rfl) ?_
  with_reducible refine q_val (.pointer (some ⟨V, 0, none⟩)) (by kernel_rfl) (fun _ _ => by kernel_rfl) ?_
  with_reducible refine q_val (.pointer (some ⟨V, 22, none⟩)) (by kernel_rfl) (fun _ _ => by kernel_rfl) ?_
  with_reducible refine q_load 34 (.tmp 49) (.pointer (some ⟨V, 22, none⟩)) (.int .u64 Z4) rfl (by kernel_rfl) (by kernel_rfl) (fun _ h => h.at' 22 (by decide) _ hZ4) ?_
  with_reducible refine q_val (.int .u64 y) (by kernel_rfl) (fun _ _ => by kernel_rfl) ?_
  with_reducible refine q_val (.int .u64 (bits .xor .u64 Z4 y)) (by kernel_rfl) (fun _ _ => by kernel_rfl) ?_
  with_reducible refine q_val (.pointer (some ⟨V, 0, none⟩)) (by kernel_rfl) (fun _ _ => by kernel_rfl) ?_
  with_reducible refine q_val (.pointer (some ⟨V, 22, none⟩)) (by kernel_rfl) (fun _ _ => by kernel_rfl) ?_
  with_reducible refine wpQuiet_nil ?_
  intro w5 hCx
  simp only [Act.put, List.setIfInBounds_toArray, List.set_cons_succ, List.set_cons_zero]
  obtain ⟨Y4, hn4⟩ : ∃ z, bits .xor .u64 Z4 y = z := ⟨_, rfl⟩
  rw [hn4]
  have co4 := hCx.cell 22 (by decide)
  have fo4 := frozen_of_row _ _ 22 _ _ hCx.row
  have H5 := Lib.hid (hCx.set 22 (by decide) Y4)
  obtain ⟨v5, hv4⟩ : ∃ f, updI v4 22 Y4 = f := ⟨_, rfl⟩
  rw [hv4] at H5
  clear hCx
  have hv : v5 = xcv v 2 y := by
    funext i
    subst hn0 hn1 hn2 hn3 hn4
    subst hZ0 hZ1 hZ2 hZ3 hZ4
    subst hv0 hv1 hv2 hv3 hv4
    unfold xcv updI
    by_cases h : i < 25 ∧ i % 5 = 2
    · rw [if_pos h]
      have hc : i = 2 ∨ i = 7 ∨ i = 12 ∨ i = 17 ∨ i = 22 := by omega
      rcases hc with rfl | rfl | rfl | rfl | rfl <;> rfl
    · rw [if_neg h, if_neg (by omega), if_neg (by omega), if_neg (by omega), if_neg (by omega), if_neg (by omega)]
  rw [hv] at H5
  go_wp2_with fail
  go_end0
  exact ⟨rfl, H5.out⟩
set_option maxRecDepth 100000 in
set_option maxHeartbeats 4000000 in
-- THE COLUMN 3.
theorem xcol3 (y : Int) (w : World) (hw : w.heap[V]? = some (.cells (kr v tl) tt (0, 0))) :
    Calls Tryd.prog 49 #[.pointer (some ⟨V, 0, none⟩), .int .i64 3, .int .u64 y] w fun e w' => e = .returned (.tuple #[]) ∧ CK w V tt tl (xcv v 3 y) w' := by
  have H0 := Lib.hid (show CK w V tt tl v w from ⟨KBut.refl _ _, hw⟩)
  clear hw
  go_enter Tryd.func49, Tryd.ntmps49
  -- region 0
  obtain ⟨Z0, hZ0⟩ : ∃ z, v 3 = z := ⟨_, rfl⟩
  go_wp2_with fail
  refine region_quiet_tail 9 (CK w V tt tl v) (by kernel_rfl) (by kernel_rfl) H0.out.drew ?_
  simp only [List.take_succ_cons, List.take_zero, List.drop_succ_cons, List.drop_zero]
  with_reducible refine q_val (.pointer (some ⟨V, 0, none⟩)) (by kernel_rfl) (fun _ _ => by kernel_rfl) ?_
  with_reducible refine q_val (.int .i64 3) (by kernel_rfl) (fun _ _ => by kernel_rfl) ?_
  with_reducible refine q_val (.pointer (some ⟨V, 0, none⟩)) (by kernel_rfl) (fun _ _ => by kernel_rfl) ?_
  with_reducible refine q_val (.pointer (some ⟨V, 3, none⟩)) (by kernel_rfl) (fun _ _ => by kernel_rfl) ?_
  with_reducible refine q_load 34 (.tmp 9) (.pointer (some ⟨V, 3, none⟩)) (.int .u64 Z0) rfl (by kernel_rfl) (by kernel_rfl) (fun _ h => h.at' 3 (by decide) _ hZ0) ?_
  with_reducible refine q_val (.int .u64 y) (by kernel_rfl) (fun _ _ => by kernel_rfl) ?_
  with_reducible refine q_val (.int .u64 (bits .xor .u64 Z0 y)) (by kernel_rfl) (fun _ _ => by kernel_rfl) ?_
  with_reducible refine q_val (.pointer (some ⟨V, 0, none⟩)) (by kernel_rfl) (fun _ _ => by kernel_rfl) ?_
  with_reducible refine q_val (.pointer (some ⟨V, 3, none⟩)) (by kernel_rfl) (fun _ _ => by kernel_rfl) ?_
  with_reducible refine wpQuiet_nil ?_
  intro w1 hCx
  simp only [Act.put, List.setIfInBounds_toArray, List.set_cons_succ, List.set_cons_zero]
  obtain ⟨Y0, hn0⟩ : ∃ z, bits .xor .u64 Z0 y = z := ⟨_, rfl⟩
  rw [hn0]
  have co0 := hCx.cell 3 (by decide)
  have fo0 := frozen_of_row _ _ 3 _ _ hCx.row
  have H1 := Lib.hid (hCx.set 3 (by decide) Y0)
  obtain ⟨v1, hv0⟩ : ∃ f, updI v 3 Y0 = f := ⟨_, rfl⟩
  rw [hv0] at H1
  clear hCx
  -- region 1
  obtain ⟨Z1, hZ1⟩ : ∃ z, v1 8 = z := ⟨_, rfl⟩
  go_wp2_with fail
  refine region_quiet_tail 10 (CK w V tt tl v1) (by kernel_rfl) (by kernel_rfl) H1.out.drew ?_
  simp only [List.take_succ_cons, List.take_zero, List.drop_succ_cons, List.drop_zero]
  with_reducible refine q_val (.pointer (some ⟨V, 0, none⟩)) (by kernel_rfl) (fun _ _ => by kernel_rfl) ?_
  with_reducible refine q_val (.int .i64 3) (by kernel_rfl) (fun _ _ => by kernel_rfl) ?_
  with_reducible refine q_val (.int .i64 8) (by kernel_rfl) (fun _ _ => by kernel_rfl) ?_
  with_reducible refine q_val (.pointer (some ⟨V, 0, none⟩)) (by kernel_rfl) (fun _ _ => by kernel_rfl) ?_
  with_reducible refine q_val (.pointer (some ⟨V, 8, none⟩)) (by kernel_rfl) (fun _ _ => by kernel_rfl) ?_
  with_reducible refine q_load 34 (.tmp 19) (.pointer (some ⟨V, 8, none⟩)) (.int .u64 Z1) rfl (by kernel_rfl) (by kernel_rfl) (fun _ h => h.at' 8 (by decide) _ hZ1) ?_
  with_reducible refine q_val (.int .u64 y) (by kernel_rfl) (fun _ _ => by kernel_rfl) ?_
  with_reducible refine q_val (.int .u64 (bits .xor .u64 Z1 y)) (by kernel_rfl) (fun _ _ => by kernel_rfl) ?_
  with_reducible refine q_val (.pointer (some ⟨V, 0, none⟩)) (by kernel_rfl) (fun _ _ => by kernel_rfl) ?_
  with_reducible refine q_val (.pointer (some ⟨V, 8, none⟩)) (by kernel_rfl) (fun _ _ => by kernel_rfl) ?_
  with_reducible refine wpQuiet_nil ?_
  intro w2 hCx
  simp only [Act.put, List.setIfInBounds_toArray, List.set_cons_succ, List.set_cons_zero]
  obtain ⟨Y1, hn1⟩ : ∃ z, bits .xor .u64 Z1 y = z := ⟨_, rfl⟩
  rw [hn1]
  have co1 := hCx.cell 8 (by decide)
  have fo1 := frozen_of_row _ _ 8 _ _ hCx.row
  have H2 := Lib.hid (hCx.set 8 (by decide) Y1)
  obtain ⟨v2, hv1⟩ : ∃ f, updI v1 8 Y1 = f := ⟨_, rfl⟩
  rw [hv1] at H2
  clear hCx
  -- region 2
  obtain ⟨Z2, hZ2⟩ : ∃ z, v2 13 = z := ⟨_, rfl⟩
  go_wp2_with fail
  refine region_quiet_tail 10 (CK w V tt tl v2) (by kernel_rfl) (by kernel_rfl) H2.out.drew ?_
  simp only [List.take_succ_cons, List.take_zero, List.drop_succ_cons, List.drop_zero]
  with_reducible refine q_val (.pointer (some ⟨V, 0, none⟩)) (by kernel_rfl) (fun _ _ => by kernel_rfl) ?_
  with_reducible refine q_val (.int .i64 3) (by kernel_rfl) (fun _ _ => by kernel_rfl) ?_
  with_reducible refine q_val (.int .i64 13) (by kernel_rfl) (fun _ _ => by kernel_rfl) ?_
  with_reducible refine q_val (.pointer (some ⟨V, 0, none⟩)) (by kernel_rfl) (fun _ _ => by kernel_rfl) ?_
  with_reducible refine q_val (.pointer (some ⟨V, 13, none⟩)) (by kernel_rfl) (fun _ _ => by kernel_rfl) ?_
  with_reducible refine q_load 34 (.tmp 29) (.pointer (some ⟨V, 13, none⟩)) (.int .u64 Z2) rfl (by kernel_rfl) (by kernel_rfl) (fun _ h => h.at' 13 (by decide) _ hZ2) ?_
  with_reducible refine q_val (.int .u64 y) (by kernel_rfl) (fun _ _ => by kernel_rfl) ?_
  with_reducible refine q_val (.int .u64 (bits .xor .u64 Z2 y)) (by kernel_rfl) (fun _ _ => by kernel_rfl) ?_
  with_reducible refine q_val (.pointer (some ⟨V, 0, none⟩)) (by kernel_rfl) (fun _ _ => by kernel_rfl) ?_
  with_reducible refine q_val (.pointer (some ⟨V, 13, none⟩)) (by kernel_rfl) (fun _ _ => by kernel_rfl) ?_
  with_reducible refine wpQuiet_nil ?_
  intro w3 hCx
  simp only [Act.put, List.setIfInBounds_toArray, List.set_cons_succ, List.set_cons_zero]
  obtain ⟨Y2, hn2⟩ : ∃ z, bits .xor .u64 Z2 y = z := ⟨_, rfl⟩
  rw [hn2]
  have co2 := hCx.cell 13 (by decide)
  have fo2 := frozen_of_row _ _ 13 _ _ hCx.row
  have H3 := Lib.hid (hCx.set 13 (by decide) Y2)
  obtain ⟨v3, hv2⟩ : ∃ f, updI v2 13 Y2 = f := ⟨_, rfl⟩
  rw [hv2] at H3
  clear hCx
  -- region 3
  obtain ⟨Z3, hZ3⟩ : ∃ z, v3 18 = z := ⟨_, rfl⟩
  go_wp2_with fail
  refine region_quiet_tail 10 (CK w V tt tl v3) (by kernel_rfl) (by kernel_rfl) H3.out.drew ?_
  simp only [List.take_succ_cons, List.take_zero, List.drop_succ_cons, List.drop_zero]
  with_reducible refine q_val (.pointer (some ⟨V, 0, none⟩)) (by kernel_rfl) (fun _ _ => by kernel_rfl) ?_
  with_reducible refine q_val (.int .i64 3) (by kernel_rfl) (fun _ _ => by kernel_rfl) ?_
  with_reducible refine q_val (.int .i64 18) (by kernel_rfl) (fun _ _ => by kernel_rfl) ?_
  with_reducible refine q_val (.pointer (some ⟨V, 0, none⟩)) (by kernel_rfl) (fun _ _ => by kernel_rfl) ?_
  with_reducible refine q_val (.pointer (some ⟨V, 18, none⟩)) (by kernel_rfl) (fun _ _ => by kernel_rfl) ?_
  with_reducible refine q_load 34 (.tmp 39) (.pointer (some ⟨V, 18, none⟩)) (.int .u64 Z3) rfl (by kernel_rfl) (by kernel_rfl) (fun _ h => h.at' 18 (by decide) _ hZ3) ?_
  with_reducible refine q_val (.int .u64 y) (by kernel_rfl) (fun _ _ => by kernel_rfl) ?_
  with_reducible refine q_val (.int .u64 (bits .xor .u64 Z3 y)) (by kernel_rfl) (fun _ _ => by kernel_rfl) ?_
  with_reducible refine q_val (.pointer (some ⟨V, 0, none⟩)) (by kernel_rfl) (fun _ _ => by kernel_rfl) ?_
  with_reducible refine q_val (.pointer (some ⟨V, 18, none⟩)) (by kernel_rfl) (fun _ _ => by kernel_rfl) ?_
  with_reducible refine wpQuiet_nil ?_
  intro w4 hCx
  simp only [Act.put, List.setIfInBounds_toArray, List.set_cons_succ, List.set_cons_zero]
  obtain ⟨Y3, hn3⟩ : ∃ z, bits .xor .u64 Z3 y = z := ⟨_, rfl⟩
  rw [hn3]
  have co3 := hCx.cell 18 (by decide)
  have fo3 := frozen_of_row _ _ 18 _ _ hCx.row
  have H4 := Lib.hid (hCx.set 18 (by decide) Y3)
  obtain ⟨v4, hv3⟩ : ∃ f, updI v3 18 Y3 = f := ⟨_, rfl⟩
  rw [hv3] at H4
  clear hCx
  -- region 4
  obtain ⟨Z4, hZ4⟩ : ∃ z, v4 23 = z := ⟨_, rfl⟩
  go_wp2_with fail
  refine region_quiet_tail 10 (CK w V tt tl v4) (by kernel_rfl) (by kernel_rfl) H4.out.drew ?_
  simp only [List.take_succ_cons, List.take_zero, List.drop_succ_cons, List.drop_zero]
  with_reducible refine q_val (.pointer (some ⟨V, 0, none⟩)) (by kernel_rfl) (fun _ _ => by kernel_rfl) ?_
  with_reducible refine q_val (.int .i64 3) (by kernel_rfl) (fun _ _ => by kernel_rfl) ?_
  with_reducible refine q_val (.int .i64 23) (by kernel_rfl) (fun _ _ => by kernel_rfl) ?_
  with_reducible refine q_val (.pointer (some ⟨V, 0, none⟩)) (by kernel_rfl) (fun _ _ => by kernel_rfl) ?_
  with_reducible refine q_val (.pointer (some ⟨V, 23, none⟩)) (by kernel_rfl) (fun _ _ => by kernel_rfl) ?_
  with_reducible refine q_load 34 (.tmp 49) (.pointer (some ⟨V, 23, none⟩)) (.int .u64 Z4) rfl (by kernel_rfl) (by kernel_rfl) (fun _ h => h.at' 23 (by decide) _ hZ4) ?_
  with_reducible refine q_val (.int .u64 y) (by kernel_rfl) (fun _ _ => by kernel_rfl) ?_
  with_reducible refine q_val (.int .u64 (bits .xor .u64 Z4 y)) (by kernel_rfl) (fun _ _ => by kernel_rfl) ?_
  with_reducible refine q_val (.pointer (some ⟨V, 0, none⟩)) (by kernel_rfl) (fun _ _ => by kernel_rfl) ?_
  with_reducible refine q_val (.pointer (some ⟨V, 23, none⟩)) (by kernel_rfl) (fun _ _ => by kernel_rfl) ?_
  with_reducible refine wpQuiet_nil ?_
  intro w5 hCx
  simp only [Act.put, List.setIfInBounds_toArray, List.set_cons_succ, List.set_cons_zero]
  obtain ⟨Y4, hn4⟩ : ∃ z, bits .xor .u64 Z4 y = z := ⟨_, rfl⟩
  rw [hn4]
  have co4 := hCx.cell 23 (by decide)
  have fo4 := frozen_of_row _ _ 23 _ _ hCx.row
  have H5 := Lib.hid (hCx.set 23 (by decide) Y4)
  obtain ⟨v5, hv4⟩ : ∃ f, updI v4 23 Y4 = f := ⟨_, rfl⟩
  rw [hv4] at H5
  clear hCx
  have hv : v5 = xcv v 3 y := by
    funext i
    subst hn0 hn1 hn2 hn3 hn4
    subst hZ0 hZ1 hZ2 hZ3 hZ4
    subst hv0 hv1 hv2 hv3 hv4
    unfold xcv updI
    by_cases h : i < 25 ∧ i % 5 = 3
    · rw [if_pos h]
      have hc : i = 3 ∨ i = 8 ∨ i = 13 ∨ i = 18 ∨ i = 23 := by omega
      rcases hc with rfl | rfl | rfl | rfl | rfl <;> rfl
    · rw [if_neg h, if_neg (by omega), if_neg (by omega), if_neg (by omega), if_neg (by omega), if_neg (by omega)]
  rw [hv] at H5
  go_wp2_with fail
  go_end0
  exact ⟨rfl, H5.out⟩
set_option maxRecDepth 100000 in
set_option maxHeartbeats 4000000 in
-- THE COLUMN 4.
theorem xcol4 (y : Int) (w : World) (hw : w.heap[V]? = some (.cells (kr v tl) tt (0, 0))) :
    Calls Tryd.prog 49 #[.pointer (some ⟨V, 0, none⟩), .int .i64 4, .int .u64 y] w fun e w' => e = .returned (.tuple #[]) ∧ CK w V tt tl (xcv v 4 y) w' := by
  have H0 := Lib.hid (show CK w V tt tl v w from ⟨KBut.refl _ _, hw⟩)
  clear hw
  go_enter Tryd.func49, Tryd.ntmps49
  -- region 0
  obtain ⟨Z0, hZ0⟩ : ∃ z, v 4 = z := ⟨_, rfl⟩
  go_wp2_with fail
  refine region_quiet_tail 9 (CK w V tt tl v) (by kernel_rfl) (by kernel_rfl) H0.out.drew ?_
  simp only [List.take_succ_cons, List.take_zero, List.drop_succ_cons, List.drop_zero]
  with_reducible refine q_val (.pointer (some ⟨V, 0, none⟩)) (by kernel_rfl) (fun _ _ => by kernel_rfl) ?_
  with_reducible refine q_val (.int .i64 4) (by kernel_rfl) (fun _ _ => by kernel_rfl) ?_
  with_reducible refine q_val (.pointer (some ⟨V, 0, none⟩)) (by kernel_rfl) (fun _ _ => by kernel_rfl) ?_
  with_reducible refine q_val (.pointer (some ⟨V, 4, none⟩)) (by kernel_rfl) (fun _ _ => by kernel_rfl) ?_
  with_reducible refine q_load 34 (.tmp 9) (.pointer (some ⟨V, 4, none⟩)) (.int .u64 Z0) rfl (by kernel_rfl) (by kernel_rfl) (fun _ h => h.at' 4 (by decide) _ hZ0) ?_
  with_reducible refine q_val (.int .u64 y) (by kernel_rfl) (fun _ _ => by kernel_rfl) ?_
  with_reducible refine q_val (.int .u64 (bits .xor .u64 Z0 y)) (by kernel_rfl) (fun _ _ => by kernel_rfl) ?_
  with_reducible refine q_val (.pointer (some ⟨V, 0, none⟩)) (by kernel_rfl) (fun _ _ => by kernel_rfl) ?_
  with_reducible refine q_val (.pointer (some ⟨V, 4, none⟩)) (by kernel_rfl) (fun _ _ => by kernel_rfl) ?_
  with_reducible refine wpQuiet_nil ?_
  intro w1 hCx
  simp only [Act.put, List.setIfInBounds_toArray, List.set_cons_succ, List.set_cons_zero]
  obtain ⟨Y0, hn0⟩ : ∃ z, bits .xor .u64 Z0 y = z := ⟨_, rfl⟩
  rw [hn0]
  have co0 := hCx.cell 4 (by decide)
  have fo0 := frozen_of_row _ _ 4 _ _ hCx.row
  have H1 := Lib.hid (hCx.set 4 (by decide) Y0)
  obtain ⟨v1, hv0⟩ : ∃ f, updI v 4 Y0 = f := ⟨_, rfl⟩
  rw [hv0] at H1
  clear hCx
  -- region 1
  obtain ⟨Z1, hZ1⟩ : ∃ z, v1 9 = z := ⟨_, rfl⟩
  go_wp2_with fail
  refine region_quiet_tail 10 (CK w V tt tl v1) (by kernel_rfl) (by kernel_rfl) H1.out.drew ?_
  simp only [List.take_succ_cons, List.take_zero, List.drop_succ_cons, List.drop_zero]
  with_reducible refine q_val (.pointer (some ⟨V, 0, none⟩)) (by kernel_rfl) (fun _ _ => by kernel_rfl) ?_
  with_reducible refine q_val (.int .i64 4) (by kernel_rfl) (fun _ _ => by kernel_rfl) ?_
  with_reducible refine q_val (.int .i64 9) (by kernel_rfl) (fun _ _ => by kernel_rfl) ?_
  with_reducible refine q_val (.pointer (some ⟨V, 0, none⟩)) (by kernel_rfl) (fun _ _ => by kernel_rfl) ?_
  with_reducible refine q_val (.pointer (some ⟨V, 9, none⟩)) (by kernel_rfl) (fun _ _ => by kernel_rfl) ?_
  with_reducible refine q_load 34 (.tmp 19) (.pointer (some ⟨V, 9, none⟩)) (.int .u64 Z1) rfl (by kernel_rfl) (by kernel_rfl) (fun _ h => h.at' 9 (by decide) _ hZ1) ?_
  with_reducible refine q_val (.int .u64 y) (by kernel_rfl) (fun _ _ => by kernel_rfl) ?_
  with_reducible refine q_val (.int .u64 (bits .xor .u64 Z1 y)) (by kernel_rfl) (fun _ _ => by kernel_rfl) ?_
  with_reducible refine q_val (.pointer (some ⟨V, 0, none⟩)) (by kernel_rfl) (fun _ _ => by kernel_rfl) ?_
  with_reducible refine q_val (.pointer (some ⟨V, 9, none⟩)) (by kernel_rfl) (fun _ _ => by kernel_rfl) ?_
  with_reducible refine wpQuiet_nil ?_
  intro w2 hCx
  simp only [Act.put, List.setIfInBounds_toArray, List.set_cons_succ, List.set_cons_zero]
  obtain ⟨Y1, hn1⟩ : ∃ z, bits .xor .u64 Z1 y = z := ⟨_, rfl⟩
  rw [hn1]
  have co1 := hCx.cell 9 (by decide)
  have fo1 := frozen_of_row _ _ 9 _ _ hCx.row
  have H2 := Lib.hid (hCx.set 9 (by decide) Y1)
  obtain ⟨v2, hv1⟩ : ∃ f, updI v1 9 Y1 = f := ⟨_, rfl⟩
  rw [hv1] at H2
  clear hCx
  -- region 2
  obtain ⟨Z2, hZ2⟩ : ∃ z, v2 14 = z := ⟨_, rfl⟩
  go_wp2_with fail
  refine region_quiet_tail 10 (CK w V tt tl v2) (by kernel_rfl) (by kernel_rfl) H2.out.drew ?_
  simp only [List.take_succ_cons, List.take_zero, List.drop_succ_cons, List.drop_zero]
  with_reducible refine q_val (.pointer (some ⟨V, 0, none⟩)) (by kernel_rfl) (fun _ _ => by kernel_rfl) ?_
  with_reducible refine q_val (.int .i64 4) (by kernel_rfl) (fun _ _ => by kernel_rfl) ?_
  with_reducible refine q_val (.int .i64 14) (by kernel_rfl) (fun _ _ => by kernel_rfl) ?_
  with_reducible refine q_val (.pointer (some ⟨V, 0, none⟩)) (by kernel_rfl) (fun _ _ => by kernel_rfl) ?_
  with_reducible refine q_val (.pointer (some ⟨V, 14, none⟩)) (by kernel_rfl) (fun _ _ => by kernel_rfl) ?_
  with_reducible refine q_load 34 (.tmp 29) (.pointer (some ⟨V, 14, none⟩)) (.int .u64 Z2) rfl (by kernel_rfl) (by kernel_rfl) (fun _ h => h.at' 14 (by decide) _ hZ2) ?_
  with_reducible refine q_val (.int .u64 y) (by kernel_rfl) (fun _ _ => by kernel_rfl) ?_
  with_reducible refine q_val (.int .u64 (bits .xor .u64 Z2 y)) (by kernel_rfl) (fun _ _ => by kernel_rfl) ?_
  with_reducible refine q_val (.pointer (some ⟨V, 0, none⟩)) (by kernel_rfl) (fun _ _ => by kernel_rfl) ?_
  with_reducible refine q_val (.pointer (some ⟨V, 14, none⟩)) (by kernel_rfl) (fun _ _ => by kernel_rfl) ?_
  with_reducible refine wpQuiet_nil ?_
  intro w3 hCx
  simp only [Act.put, List.setIfInBounds_toArray, List.set_cons_succ, List.set_cons_zero]
  obtain ⟨Y2, hn2⟩ : ∃ z, bits .xor .u64 Z2 y = z := ⟨_, rfl⟩
  rw [hn2]
  have co2 := hCx.cell 14 (by decide)
  have fo2 := frozen_of_row _ _ 14 _ _ hCx.row
  have H3 := Lib.hid (hCx.set 14 (by decide) Y2)
  obtain ⟨v3, hv2⟩ : ∃ f, updI v2 14 Y2 = f := ⟨_, rfl⟩
  rw [hv2] at H3
  clear hCx
  -- region 3
  obtain ⟨Z3, hZ3⟩ : ∃ z, v3 19 = z := ⟨_, rfl⟩
  go_wp2_with fail
  refine region_quiet_tail 10 (CK w V tt tl v3) (by kernel_rfl) (by kernel_rfl) H3.out.drew ?_
  simp only [List.take_succ_cons, List.take_zero, List.drop_succ_cons, List.drop_zero]
  with_reducible refine q_val (.pointer (some ⟨V, 0, none⟩)) (by kernel_rfl) (fun _ _ => by kernel_rfl) ?_
  with_reducible refine q_val (.int .i64 4) (by kernel_rfl) (fun _ _ => by kernel_rfl) ?_
  with_reducible refine q_val (.int .i64 19) (by kernel_rfl) (fun _ _ => by kernel_rfl) ?_
  with_reducible refine q_val (.pointer (some ⟨V, 0, none⟩)) (by kernel_rfl) (fun _ _ => by kernel_rfl) ?_
  with_reducible refine q_val (.pointer (some ⟨V, 19, none⟩)) (by kernel_rfl) (fun _ _ => by kernel_rfl) ?_
  with_reducible refine q_load 34 (.tmp 39) (.pointer (some ⟨V, 19, none⟩)) (.int .u64 Z3) rfl (by kernel_rfl) (by kernel_rfl) (fun _ h => h.at' 19 (by decide) _ hZ3) ?_
  with_reducible refine q_val (.int .u64 y) (by kernel_rfl) (fun _ _ => by kernel_rfl) ?_
  with_reducible refine q_val (.int .u64 (bits .xor .u64 Z3 y)) (by kernel_rfl) (fun _ _ => by kernel_rfl) ?_
  with_reducible refine q_val (.pointer (some ⟨V, 0, none⟩)) (by kernel_rfl) (fun _ _ => by kernel_rfl) ?_
  with_reducible refine q_val (.pointer (some ⟨V, 19, none⟩)) (by kernel_rfl) (fun _ _ => by kernel_rfl) ?_
  with_reducible refine wpQuiet_nil ?_
  intro w4 hCx
  simp only [Act.put, List.setIfInBounds_toArray, List.set_cons_succ, List.set_cons_zero]
  obtain ⟨Y3, hn3⟩ : ∃ z, bits .xor .u64 Z3 y = z := ⟨_, rfl⟩
  rw [hn3]
  have co3 := hCx.cell 19 (by decide)
  have fo3 := frozen_of_row _ _ 19 _ _ hCx.row
  have H4 := Lib.hid (hCx.set 19 (by decide) Y3)
  obtain ⟨v4, hv3⟩ : ∃ f, updI v3 19 Y3 = f := ⟨_, rfl⟩
  rw [hv3] at H4
  clear hCx
  -- region 4
  obtain ⟨Z4, hZ4⟩ : ∃ z, v4 24 = z := ⟨_, rfl⟩
  go_wp2_with fail
  refine region_quiet_tail 10 (CK w V tt tl v4) (by kernel_rfl) (by kernel_rfl) H4.out.drew ?_
  simp only [List.take_succ_cons, List.take_zero, List.drop_succ_cons, List.drop_zero]
  with_reducible refine q_val (.pointer (some ⟨V, 0, none⟩)) (by kernel_rfl) (fun _ _ => by kernel_rfl) ?_
  with_reducible refine q_val (.int .i64 4) (by kernel_rfl) (fun _ _ => by kernel_rfl) ?_
  with_reducible refine q_val (.int .i64 24) (by kernel_rfl) (fun _ _ => by kernel_rfl) ?_
  with_reducible refine q_val (.pointer (some ⟨V, 0, none⟩)) (by kernel_rfl) (fun _ _ => by kernel_rfl) ?_
  with_reducible refine q_val (.pointer (some ⟨V, 24, none⟩)) (by kernel_rfl) (fun _ _ => by kernel_rfl) ?_
  with_reducible refine q_load 34 (.tmp 49) (.pointer (some ⟨V, 24, none⟩)) (.int .u64 Z4) rfl (by kernel_rfl) (by kernel_rfl) (fun _ h => h.at' 24 (by decide) _ hZ4) ?_
  with_reducible refine q_val (.int .u64 y) (by kernel_rfl) (fun _ _ => by kernel_rfl) ?_
  with_reducible refine q_val (.int .u64 (bits .xor .u64 Z4 y)) (by kernel_rfl) (fun _ _ => by kernel_rfl) ?_
  with_reducible refine q_val (.pointer (some ⟨V, 0, none⟩)) (by kernel_rfl) (fun _ _ => by kernel_rfl) ?_
  with_reducible refine q_val (.pointer (some ⟨V, 24, none⟩)) (by kernel_rfl) (fun _ _ => by kernel_rfl) ?_
  with_reducible refine wpQuiet_nil ?_
  intro w5 hCx
  simp only [Act.put, List.setIfInBounds_toArray, List.set_cons_succ, List.set_cons_zero]
  obtain ⟨Y4, hn4⟩ : ∃ z, bits .xor .u64 Z4 y = z := ⟨_, rfl⟩
  rw [hn4]
  have co4 := hCx.cell 24 (by decide)
  have fo4 := frozen_of_row _ _ 24 _ _ hCx.row
  have H5 := Lib.hid (hCx.set 24 (by decide) Y4)
  obtain ⟨v5, hv4⟩ : ∃ f, updI v4 24 Y4 = f := ⟨_, rfl⟩
  rw [hv4] at H5
  clear hCx
  have hv : v5 = xcv v 4 y := by
    funext i
    subst hn0 hn1 hn2 hn3 hn4
    subst hZ0 hZ1 hZ2 hZ3 hZ4
    subst hv0 hv1 hv2 hv3 hv4
    unfold xcv updI
    by_cases h : i < 25 ∧ i % 5 = 4
    · rw [if_pos h]
      have hc : i = 4 ∨ i = 9 ∨ i = 14 ∨ i = 19 ∨ i = 24 := by omega
      rcases hc with rfl | rfl | rfl | rfl | rfl <;> rfl
    · rw [if_neg h, if_neg (by omega), if_neg (by omega), if_neg (by omega), if_neg (by omega), if_neg (by omega)]
  rw [hv] at H5
  go_wp2_with fail
  go_end0
  exact ⟨rfl, H5.out⟩
end Go.Proofs.YtcmpnnfnkcmpcaaDoor
namespace Go.Proofs.YtcmpnnfnkcmpcaaDoor
open Go.RowKit

/-- x turned up by k. -/
def rul (k : Nat) (x : Int) : Int := bits .or .u64 (x * 2 ^ (k % 64) % 18446744073709551616) (x / 2 ^ (64 - k % 64))
theorem and63 (k : Nat) (hk : k < 4294967296) : bits .and .u64 (k : Int) 63 = ((k % 64 : Nat) : Int) := by
  have h1 : (BitVec.ofInt 64 (k : Int)).toNat = k := by
    rw [BitVec.ofInt_natCast, BitVec.toNat_ofNat]; exact Nat.mod_eq_of_lt (by omega)
  have h2 : (BitVec.ofInt 64 (63 : Int)).toNat = 63 := by decide +kernel
  show IntKind.u64.wrap ((BitVec.ofInt 64 (k : Int) &&& BitVec.ofInt 64 (63 : Int)).toNat : Int) = _
  rw [BitVec.toNat_and, h1, h2, IntKind.wrap_u64, show (63 : Nat) = 2 ^ 6 - 1 from rfl, Nat.and_two_pow_sub_one_eq_mod]
  omega
set_option maxRecDepth 100000 in
theorem rotl (k : Nat) (hk : k < 4294967296) (x : Int) (w : World) : Calls Tryd.prog 50 #[.int .u64 x, .int .i64 k] w fun e w' => e = .returned (.int .u64 (rul k x)) ∧ w' = w := by
  have ha := and63 k hk
  have hw : IntKind.u64.wrap (k : Int) = k := by rw [IntKind.wrap_u64]; omega
  have hm : k % 64 < 64 := Nat.mod_lt _ (by decide)
  unfold rul
  obtain ⟨s, hs⟩ : ∃ s, k % 64 = s := ⟨_, rfl⟩
  rw [hs] at ha hm ⊢
  have hq : IntKind.u64.wrap (64 - (s : Int)) = ((64 - s : Nat) : Int) := by rw [IntKind.wrap_u64]; omega
  go_enter Tryd.func50, Tryd.ntmps50
  go_wp2
  rw [IntKind.wrap_u64]
  go_ret
  exact ⟨rfl, rfl⟩
end Go.Proofs.YtcmpnnfnkcmpcaaDoor
namespace Go.Proofs.YtcmpnnfnkcmpcaaDoor
open Go.RowKit

section
variable {P : Program} {ops : Array Oper} {C : World → Prop} {Q : Exit → Act → World → Prop}
theorem wpList_quiet : ∀ (l : List Oper) (a : Act) (w : World), C w → wpQuiet P ops C (fun a' => ∀ w', C w' → Q .normal a' w') l a → wpList P ops Q l a w
  | [], _, w, hC, h => h w hC
  | o :: l, a, w, hC, h => by
    unfold wpQuiet at h
    unfold wpList
    split
    · rename_i hw
      rw [if_pos hw] at h
      exact .inl (Oper.wp_of_quiet hC (fun a' w' hC' hK => wpList_quiet l a' w' hC' hK) h)
    · rename_i hw
      rw [if_neg hw] at h
      exact wpList_quiet l _ w hC h
theorem q_region {id : Nat} {l : List Oper} {a : Act} {w : World} (C : World → Prop) (hC : C w) (h : wpQuiet P l.toArray C (fun a' => ∀ w', C w' → Q .normal a' w') l a) : (Code.region id l.toArray false).wp P Q a w :=
  wp_region_list (by simpa using wpList_quiet l a w hC (by simpa using h))
end
end Go.Proofs.YtcmpnnfnkcmpcaaDoor
namespace Go.Proofs.YtcmpnnfnkcmpcaaDoor
open Go.RowKit

/-- The xor of the column x. -/
def kcl (v : Nat → Int) (x : Nat) : Int := bits .xor .u64 (bits .xor .u64 (bits .xor .u64 (bits .xor .u64 (v x) (v (x + 5))) (v (x + 10))) (v (x + 15))) (v (x + 20))
/-- What is laid over the column x. -/
def kds (v : Nat → Int) (x : Nat) : Int := bits .xor .u64 (kcl v ((x + 4) % 5)) (rul 1 (kcl v ((x + 1) % 5)))
/-- The state behind the first step. -/
def kth (v : Nat → Int) (i : Nat) : Int := if i < 25 then bits .xor .u64 (v i) (kds v (i % 5)) else v i
theorem kth_eq (v : Nat → Int) : xcv (xcv (xcv (xcv (xcv v 0 (kds v 0)) 1 (kds v 1)) 2 (kds v 2)) 3 (kds v 3)) 4 (kds v 4) = kth v := by
  funext i
  unfold xcv kth
  by_cases h : i < 25
  · have hm : i % 5 = 0 ∨ i % 5 = 1 ∨ i % 5 = 2 ∨ i % 5 = 3 ∨ i % 5 = 4 := by omega
    rcases hm with hm | hm | hm | hm | hm <;> simp [h, hm]
  · simp [h]
set_option maxRecDepth 100000 in
set_option maxHeartbeats 4000000 in
-- THE FIRST STEP.
theorem kmix {V : Nat} {tt : TypeId} {tl : Array Value} {v : Nat → Int} (w : World) (hw : w.heap[V]? = some (.cells (kr v tl) tt (0, 0))) :
    Calls Tryd.prog 39 #[.pointer (some ⟨V, 0, none⟩)] w fun e w' => e = .returned (.tuple #[]) ∧ CK w V tt tl (kth v) w' := by
  have H0 := Lib.hid (show CK w V tt tl v w from ⟨KBut.refl _ _, hw⟩)
  clear hw
  go_enter Tryd.func39, Tryd.ntmps39
  -- region 0
  go_wp2_with fail
  refine wp_region_quiet (C := CK w V tt tl v) (by kernel_rfl) (by kernel_rfl) H0.out.drew ?_
  with_reducible refine q_val (.pointer (some ⟨V, 0, none⟩)) (by kernel_rfl) (fun _ _ => by kernel_rfl) ?_
  with_reducible refine q_val (.pointer (some ⟨V, 0, none⟩)) (by kernel_rfl) (fun _ _ => by kernel_rfl) ?_
  with_reducible refine q_val (.pointer (some ⟨V, 0, none⟩)) (by kernel_rfl) (fun _ _ => by kernel_rfl) ?_
  with_reducible refine q_load 34 (.tmp 9) (.pointer (some ⟨V, 0, none⟩)) (.int .u64 (v 0)) rfl (by kernel_rfl) (by kernel_rfl) (fun _ h => h.at' 0 (by decide) _ rfl) ?_
  with_reducible refine q_val (.pointer (some ⟨V, 0, none⟩)) (by kernel_rfl) (fun _ _ => by kernel_rfl) ?_
  with_reducible refine q_val (.pointer (some ⟨V, 0, none⟩)) (by kernel_rfl) (fun _ _ => by kernel_rfl) ?_
  with_reducible refine q_val (.pointer (some ⟨V, 5, none⟩)) (by kernel_rfl) (fun _ _ => by kernel_rfl) ?_
  with_reducible refine q_load 34 (.tmp 13) (.pointer (some ⟨V, 5, none⟩)) (.int .u64 (v 5)) rfl (by kernel_rfl) (by kernel_rfl) (fun _ h => h.at' 5 (by decide) _ rfl) ?_
  with_reducible refine q_val (.int .u64 (bits .xor .u64 (v 0) (v 5))) (by kernel_rfl) (fun _ _ => by kernel_rfl) ?_
  with_reducible refine q_val (.pointer (some ⟨V, 0, none⟩)) (by kernel_rfl) (fun _ _ => by kernel_rfl) ?_
  with_reducible refine q_val (.pointer (some ⟨V, 0, none⟩)) (by kernel_rfl) (fun _ _ => by kernel_rfl) ?_
  with_reducible refine q_val (.pointer (some ⟨V, 10, none⟩)) (by kernel_rfl) (fun _ _ => by kernel_rfl) ?_
  with_reducible refine q_load 34 (.tmp 18) (.pointer (some ⟨V, 10, none⟩)) (.int .u64 (v 10)) rfl (by kernel_rfl) (by kernel_rfl) (fun _ h => h.at' 10 (by decide) _ rfl) ?_
  with_reducible refine q_val (.int .u64 (bits .xor .u64 (bits .xor .u64 (v 0) (v 5)) (v 10))) (by kernel_rfl) (fun _ _ => by kernel_rfl) ?_
  with_reducible refine q_val (.pointer (some ⟨V, 0, none⟩)) (by kernel_rfl) (fun _ _ => by kernel_rfl) ?_
  with_reducible refine q_val (.pointer (some ⟨V, 0, none⟩)) (by kernel_rfl) (fun _ _ => by kernel_rfl) ?_
  with_reducible refine q_val (.pointer (some ⟨V, 15, none⟩)) (by kernel_rfl) (fun _ _ => by kernel_rfl) ?_
  with_reducible refine q_load 34 (.tmp 23) (.pointer (some ⟨V, 15, none⟩)) (.int .u64 (v 15)) rfl (by kernel_rfl) (by kernel_rfl) (fun _ h => h.at' 15 (by decide) _ rfl) ?_
  with_reducible refine q_val (.int .u64 (bits .xor .u64 (bits .xor .u64 (bits .xor .u64 (v 0) (v 5)) (v 10)) (v 15))) (by kernel_rfl) (fun _ _ => by kernel_rfl) ?_
  with_reducible refine q_val (.pointer (some ⟨V, 0, none⟩)) (by kernel_rfl) (fun _ _ => by kernel_rfl) ?_
  with_reducible refine q_val (.pointer (some ⟨V, 0, none⟩)) (by kernel_rfl) (fun _ _ => by kernel_rfl) ?_
  with_reducible refine q_val (.pointer (some ⟨V, 20, none⟩)) (by kernel_rfl) (fun _ _ => by kernel_rfl) ?_
  with_reducible refine q_load 34 (.tmp 28) (.pointer (some ⟨V, 20, none⟩)) (.int .u64 (v 20)) rfl (by kernel_rfl) (by kernel_rfl) (fun _ h => h.at' 20 (by decide) _ rfl) ?_
  with_reducible refine q_val (.int .u64 (bits .xor .u64 (bits .xor .u64 (bits .xor .u64 (bits .xor .u64 (v 0) (v 5)) (v 10)) (v 15)) (v 20))) (by kernel_rfl) (fun _ _ => by kernel_rfl) ?_
  with_reducible refine q_val (.int .u64 (bits .xor .u64 (bits .xor .u64 (bits .xor .u64 (bits .xor .u64 (v 0) (v 5)) (v 10)) (v 15)) (v 20))) (by kernel_rfl) (fun _ _ => by kernel_rfl) ?_
  with_reducible refine wpQuiet_nil ?_
  intro w1 hC1
  clear H0
  have H0 := Lib.hid hC1
  clear hC1
  simp only [Act.put, List.setIfInBounds_toArray, List.set_cons_succ, List.set_cons_zero]
  have e0 : bits .xor .u64 (bits .xor .u64 (bits .xor .u64 (bits .xor .u64 (v 0) (v 5)) (v 10)) (v 15)) (v 20) = kcl v 0 := rfl
  rw [e0]
  clear e0
  obtain ⟨K0, hK0⟩ : ∃ z, kcl v 0 = z := ⟨_, rfl⟩
  rw [hK0]
  -- region 1
  go_wp2_with fail
  refine wp_region_quiet (C := CK w V tt tl v) (by kernel_rfl) (by kernel_rfl) H0.out.drew ?_
  with_reducible refine q_val (.pointer (some ⟨V, 0, none⟩)) (by kernel_rfl) (fun _ _ => by kernel_rfl) ?_
  with_reducible refine q_val (.pointer (some ⟨V, 0, none⟩)) (by kernel_rfl) (fun _ _ => by kernel_rfl) ?_
  with_reducible refine q_val (.pointer (some ⟨V, 1, none⟩)) (by kernel_rfl) (fun _ _ => by kernel_rfl) ?_
  with_reducible refine q_load 34 (.tmp 33) (.pointer (some ⟨V, 1, none⟩)) (.int .u64 (v 1)) rfl (by kernel_rfl) (by kernel_rfl) (fun _ h => h.at' 1 (by decide) _ rfl) ?_
  with_reducible refine q_val (.pointer (some ⟨V, 0, none⟩)) (by kernel_rfl) (fun _ _ => by kernel_rfl) ?_
  with_reducible refine q_val (.pointer (some ⟨V, 0, none⟩)) (by kernel_rfl) (fun _ _ => by kernel_rfl) ?_
  with_reducible refine q_val (.pointer (some ⟨V, 6, none⟩)) (by kernel_rfl) (fun _ _ => by kernel_rfl) ?_
  with_reducible refine q_load 34 (.tmp 37) (.pointer (some ⟨V, 6, none⟩)) (.int .u64 (v 6)) rfl (by kernel_rfl) (by kernel_rfl) (fun _ h => h.at' 6 (by decide) _ rfl) ?_
  with_reducible refine q_val (.int .u64 (bits .xor .u64 (v 1) (v 6))) (by kernel_rfl) (fun _ _ => by kernel_rfl) ?_
  with_reducible refine q_val (.pointer (some ⟨V, 0, none⟩)) (by kernel_rfl) (fun _ _ => by kernel_rfl) ?_
  with_reducible refine q_val (.pointer (some ⟨V, 0, none⟩)) (by kernel_rfl) (fun _ _ => by kernel_rfl) ?_
  with_reducible refine q_val (.pointer (some ⟨V, 11, none⟩)) (by kernel_rfl) (fun _ _ => by kernel_rfl) ?_
  with_reducible refine q_load 34 (.tmp 42) (.pointer (some ⟨V, 11, none⟩)) (.int .u64 (v 11)) rfl (by kernel_rfl) (by kernel_rfl) (fun _ h => h.at' 11 (by decide) _ rfl) ?_
  with_reducible refine q_val (.int .u64 (bits .xor .u64 (bits .xor .u64 (v 1) (v 6)) (v 11))) (by kernel_rfl) (fun _ _ => by kernel_rfl) ?_
  with_reducible refine q_val (.pointer (some ⟨V, 0, none⟩)) (by kernel_rfl) (fun _ _ => by kernel_rfl) ?_
  with_reducible refine q_val (.pointer (some ⟨V, 0, none⟩)) (by kernel_rfl) (fun _ _ => by kernel_rfl) ?_
  with_reducible refine q_val (.pointer (some ⟨V, 16, none⟩)) (by kernel_rfl) (fun _ _ => by kernel_rfl) ?_
  with_reducible refine q_load 34 (.tmp 47) (.pointer (some ⟨V, 16, none⟩)) (.int .u64 (v 16)) rfl (by kernel_rfl) (by kernel_rfl) (fun _ h => h.at' 16 (by decide) _ rfl) ?_
  with_reducible refine q_val (.int .u64 (bits .xor .u64 (bits .xor .u64 (bits .xor .u64 (v 1) (v 6)) (v 11)) (v 16))) (by kernel_rfl) (fun _ _ => by kernel_rfl) ?_
  with_reducible refine q_val (.pointer (some ⟨V, 0, none⟩)) (by kernel_rfl) (fun _ _ => by kernel_rfl) ?_
  with_reducible refine q_val (.pointer (some ⟨V, 0, none⟩)) (by kernel_rfl) (fun _ _ => by kernel_rfl) ?_
  with_reducible refine q_val (.pointer (some ⟨V, 21, none⟩)) (by kernel_rfl) (fun _ _ => by kernel_rfl) ?_
  with_reducible refine q_load 34 (.tmp 52) (.pointer (some ⟨V, 21, none⟩)) (.int .u64 (v 21)) rfl (by kernel_rfl) (by kernel_rfl) (fun _ h => h.at' 21 (by decide) _ rfl) ?_
  with_reducible refine q_val (.int .u64 (bits .xor .u64 (bits .xor .u64 (bits .xor .u64 (bits .xor .u64 (v 1) (v 6)) (v 11)) (v 16)) (v 21))) (by kernel_rfl) (fun _ _ => by kernel_rfl) ?_
  with_reducible refine q_val (.int .u64 (bits .xor .u64 (bits .xor .u64 (bits .xor .u64 (bits .xor .u64 (v 1) (v 6)) (v 11)) (v 16)) (v 21))) (by kernel_rfl) (fun _ _ => by kernel_rfl) ?_
  with_reducible refine wpQuiet_nil ?_
  intro w2 hC2
  clear H0
  have H0 := Lib.hid hC2
  clear hC2
  simp only [Act.put, List.setIfInBounds_toArray, List.set_cons_succ, List.set_cons_zero]
  have e1 : bits .xor .u64 (bits .xor .u64 (bits .xor .u64 (bits .xor .u64 (v 1) (v 6)) (v 11)) (v 16)) (v 21) = kcl v 1 := rfl
  rw [e1]
  clear e1
  obtain ⟨K1, hK1⟩ : ∃ z, kcl v 1 = z := ⟨_, rfl⟩
  rw [hK1]
  -- region 2
  go_wp2_with fail
  refine wp_region_quiet (C := CK w V tt tl v) (by kernel_rfl) (by kernel_rfl) H0.out.drew ?_
  with_reducible refine q_val (.pointer (some ⟨V, 0, none⟩)) (by kernel_rfl) (fun _ _ => by kernel_rfl) ?_
  with_reducible refine q_val (.pointer (some ⟨V, 0, none⟩)) (by kernel_rfl) (fun _ _ => by kernel_rfl) ?_
  with_reducible refine q_val (.pointer (some ⟨V, 2, none⟩)) (by kernel_rfl) (fun _ _ => by kernel_rfl) ?_
  with_reducible refine q_load 34 (.tmp 57) (.pointer (some ⟨V, 2, none⟩)) (.int .u64 (v 2)) rfl (by kernel_rfl) (by kernel_rfl) (fun _ h => h.at' 2 (by decide) _ rfl) ?_
  with_reducible refine q_val (.pointer (some ⟨V, 0, none⟩)) (by kernel_rfl) (fun _ _ => by kernel_rfl) ?_
  with_reducible refine q_val (.pointer (some ⟨V, 0, none⟩)) (by kernel_rfl) (fun _ _ => by kernel_rfl) ?_
  with_reducible refine q_val (.pointer (some ⟨V, 7, none⟩)) (by kernel_rfl) (fun _ _ => by kernel_rfl) ?_
  with_reducible refine q_load 34 (.tmp 61) (.pointer (some ⟨V, 7, none⟩)) (.int .u64 (v 7)) rfl (by kernel_rfl) (by kernel_rfl) (fun _ h => h.at' 7 (by decide) _ rfl) ?_
  with_reducible refine q_val (.int .u64 (bits .xor .u64 (v 2) (v 7))) (by kernel_rfl) (fun _ _ => by kernel_rfl) ?_
  with_reducible refine q_val (.pointer (some ⟨V, 0, none⟩)) (by kernel_rfl) (fun _ _ => by kernel_rfl) ?_
  with_reducible refine q_val (.pointer (some ⟨V, 0, none⟩)) (by kernel_rfl) (fun _ _ => by kernel_rfl) ?_
  with_reducible refine q_val (.pointer (some ⟨V, 12, none⟩)) (by kernel_rfl) (fun _ _ => by kernel_rfl) ?_
  with_reducible refine q_load 34 (.tmp 66) (.pointer (some ⟨V, 12, none⟩)) (.int .u64 (v 12)) rfl (by kernel_rfl) (by kernel_rfl) (fun _ h => h.at' 12 (by decide) _ rfl) ?_
  with_reducible refine q_val (.int .u64 (bits .xor .u64 (bits .xor .u64 (v 2) (v 7)) (v 12))) (by kernel_rfl) (fun _ _ => by kernel_rfl) ?_
  with_reducible refine q_val (.pointer (some ⟨V, 0, none⟩)) (by kernel_rfl) (fun _ _ => by kernel_rfl) ?_
  with_reducible refine q_val (.pointer (some ⟨V, 0, none⟩)) (by kernel_rfl) (fun _ _ => by kernel_rfl) ?_
  with_reducible refine q_val (.pointer (some ⟨V, 17, none⟩)) (by kernel_rfl) (fun _ _ => by kernel_rfl) ?_
  with_reducible refine q_load 34 (.tmp 71) (.pointer (some ⟨V, 17, none⟩)) (.int .u64 (v 17)) rfl (by kernel_rfl) (by kernel_rfl) (fun _ h => h.at' 17 (by decide) _ rfl) ?_
  with_reducible refine q_val (.int .u64 (bits .xor .u64 (bits .xor .u64 (bits .xor .u64 (v 2) (v 7)) (v 12)) (v 17))) (by kernel_rfl) (fun _ _ => by kernel_rfl) ?_
  with_reducible refine q_val (.pointer (some ⟨V, 0, none⟩)) (by kernel_rfl) (fun _ _ => by kernel_rfl) ?_
  with_reducible refine q_val (.pointer (some ⟨V, 0, none⟩)) (by kernel_rfl) (fun _ _ => by kernel_rfl) ?_
  with_reducible refine q_val (.pointer (some ⟨V, 22, none⟩)) (by kernel_rfl) (fun _ _ => by kernel_rfl) ?_
  with_reducible refine q_load 34 (.tmp 76) (.pointer (some ⟨V, 22, none⟩)) (.int .u64 (v 22)) rfl (by kernel_rfl) (by kernel_rfl) (fun _ h => h.at' 22 (by decide) _ rfl) ?_
  with_reducible refine q_val (.int .u64 (bits .xor .u64 (bits .xor .u64 (bits .xor .u64 (bits .xor .u64 (v 2) (v 7)) (v 12)) (v 17)) (v 22))) (by kernel_rfl) (fun _ _ => by kernel_rfl) ?_
  with_reducible refine q_val (.int .u64 (bits .xor .u64 (bits .xor .u64 (bits .xor .u64 (bits .xor .u64 (v 2) (v 7)) (v 12)) (v 17)) (v 22))) (by kernel_rfl) (fun _ _ => by kernel_rfl) ?_
  with_reducible refine wpQuiet_nil ?_
  intro w3 hC3
  clear H0
  have H0 := Lib.hid hC3
  clear hC3
  simp only [Act.put, List.setIfInBounds_toArray, List.set_cons_succ, List.set_cons_zero]
  have e2 : bits .xor .u64 (bits .xor .u64 (bits .xor .u64 (bits .xor .u64 (v 2) (v 7)) (v 12)) (v 17)) (v 22) = kcl v 2 := rfl
  rw [e2]
  clear e2
  obtain ⟨K2, hK2⟩ : ∃ z, kcl v 2 = z := ⟨_, rfl⟩
  rw [hK2]
  -- region 3
  go_wp2_with fail
  refine wp_region_quiet (C := CK w V tt tl v) (by kernel_rfl) (by kernel_rfl) H0.out.drew ?_
  with_reducible refine q_val (.pointer (some ⟨V, 0, none⟩)) (by kernel_rfl) (fun _ _ => by kernel_rfl) ?_
  with_reducible refine q_val (.pointer (some ⟨V, 0, none⟩)) (by kernel_rfl) (fun _ _ => by kernel_rfl) ?_
  with_reducible refine q_val (.pointer (some ⟨V, 3, none⟩)) (by kernel_rfl) (fun _ _ => by kernel_rfl) ?_
  with_reducible refine q_load 34 (.tmp 81) (.pointer (some ⟨V, 3, none⟩)) (.int .u64 (v 3)) rfl (by kernel_rfl) (by kernel_rfl) (fun _ h => h.at' 3 (by decide) _ rfl) ?_
  with_reducible refine q_val (.pointer (some ⟨V, 0, none⟩)) (by kernel_rfl) (fun _ _ => by kernel_rfl) ?_
  with_reducible refine q_val (.pointer (some ⟨V, 0, none⟩)) (by kernel_rfl) (fun _ _ => by kernel_rfl) ?_
  with_reducible refine q_val (.pointer (some ⟨V, 8, none⟩)) (by kernel_rfl) (fun _ _ => by kernel_rfl) ?_
  with_reducible refine q_load 34 (.tmp 85) (.pointer (some ⟨V, 8, none⟩)) (.int .u64 (v 8)) rfl (by kernel_rfl) (by kernel_rfl) (fun _ h => h.at' 8 (by decide) _ rfl) ?_
  with_reducible refine q_val (.int .u64 (bits .xor .u64 (v 3) (v 8))) (by kernel_rfl) (fun _ _ => by kernel_rfl) ?_
  with_reducible refine q_val (.pointer (some ⟨V, 0, none⟩)) (by kernel_rfl) (fun _ _ => by kernel_rfl) ?_
  with_reducible refine q_val (.pointer (some ⟨V, 0, none⟩)) (by kernel_rfl) (fun _ _ => by kernel_rfl) ?_
  with_reducible refine q_val (.pointer (some ⟨V, 13, none⟩)) (by kernel_rfl) (fun _ _ => by kernel_rfl) ?_
  with_reducible refine q_load 34 (.tmp 90) (.pointer (some ⟨V, 13, none⟩)) (.int .u64 (v 13)) rfl (by kernel_rfl) (by kernel_rfl) (fun _ h => h.at' 13 (by decide) _ rfl) ?_
  with_reducible refine q_val (.int .u64 (bits .xor .u64 (bits .xor .u64 (v 3) (v 8)) (v 13))) (by kernel_rfl) (fun _ _ => by kernel_rfl) ?_
  with_reducible refine q_val (.pointer (some ⟨V, 0, none⟩)) (by kernel_rfl) (fun _ _ => by kernel_rfl) ?_
  with_reducible refine q_val (.pointer (some ⟨V, 0, none⟩)) (by kernel_rfl) (fun _ _ => by kernel_rfl) ?_
  with_reducible refine q_val (.pointer (some ⟨V, 18, none⟩)) (by kernel_rfl) (fun _ _ => by kernel_rfl) ?_
  with_reducible refine q_load 34 (.tmp 95) (.pointer (some ⟨V, 18, none⟩)) (.int .u64 (v 18)) rfl (by kernel_rfl) (by kernel_rfl) (fun _ h => h.at' 18 (by decide) _ rfl) ?_
  with_reducible refine q_val (.int .u64 (bits .xor .u64 (bits .xor .u64 (bits .xor .u64 (v 3) (v 8)) (v 13)) (v 18))) (by kernel_rfl) (fun _ _ => by kernel_rfl) ?_
  with_reducible refine q_val (.pointer (some ⟨V, 0, none⟩)) (by kernel_rfl) (fun _ _ => by kernel_rfl) ?_
  with_reducible refine q_val (.pointer (some ⟨V, 0, none⟩)) (by kernel_rfl) (fun _ _ => by kernel_rfl) ?_
  with_reducible refine q_val (.pointer (some ⟨V, 23, none⟩)) (by kernel_rfl) (fun _ _ => by kernel_rfl) ?_
  with_reducible refine q_load 34 (.tmp 100) (.pointer (some ⟨V, 23, none⟩)) (.int .u64 (v 23)) rfl (by kernel_rfl) (by kernel_rfl) (fun _ h => h.at' 23 (by decide) _ rfl) ?_
  with_reducible refine q_val (.int .u64 (bits .xor .u64 (bits .xor .u64 (bits .xor .u64 (bits .xor .u64 (v 3) (v 8)) (v 13)) (v 18)) (v 23))) (by kernel_rfl) (fun _ _ => by kernel_rfl) ?_
  with_reducible refine q_val (.int .u64 (bits .xor .u64 (bits .xor .u64 (bits .xor .u64 (bits .xor .u64 (v 3) (v 8)) (v 13)) (v 18)) (v 23))) (by kernel_rfl) (fun _ _ => by kernel_rfl) ?_
  with_reducible refine wpQuiet_nil ?_
  intro w4 hC4
  clear H0
  have H0 := Lib.hid hC4
  clear hC4
  simp only [Act.put, List.setIfInBounds_toArray, List.set_cons_succ, List.set_cons_zero]
  have e3 : bits .xor .u64 (bits .xor .u64 (bits .xor .u64 (bits .xor .u64 (v 3) (v 8)) (v 13)) (v 18)) (v 23) = kcl v 3 := rfl
  rw [e3]
  clear e3
  obtain ⟨K3, hK3⟩ : ∃ z, kcl v 3 = z := ⟨_, rfl⟩
  rw [hK3]
  -- region 4
  go_wp2_with fail
  refine wp_region_quiet (C := CK w V tt tl v) (by kernel_rfl) (by kernel_rfl) H0.out.drew ?_
  with_reducible refine q_val (.pointer (some ⟨V, 0, none⟩)) (by kernel_rfl) (fun _ _ => by kernel_rfl) ?_
  with_reducible refine q_val (.pointer (some ⟨V, 0, none⟩)) (by kernel_rfl) (fun _ _ => by kernel_rfl) ?_
  with_reducible refine q_val (.pointer (some ⟨V, 4, none⟩)) (by kernel_rfl) (fun _ _ => by kernel_rfl) ?_
  with_reducible refine q_load 34 (.tmp 105) (.pointer (some ⟨V, 4, none⟩)) (.int .u64 (v 4)) rfl (by kernel_rfl) (by kernel_rfl) (fun _ h => h.at' 4 (by decide) _ rfl) ?_
  with_reducible refine q_val (.pointer (some ⟨V, 0, none⟩)) (by kernel_rfl) (fun _ _ => by kernel_rfl) ?_
  with_reducible refine q_val (.pointer (some ⟨V, 0, none⟩)) (by kernel_rfl) (fun _ _ => by kernel_rfl) ?_
  with_reducible refine q_val (.pointer (some ⟨V, 9, none⟩)) (by kernel_rfl) (fun _ _ => by kernel_rfl) ?_
  with_reducible refine q_load 34 (.tmp 109) (.pointer (some ⟨V, 9, none⟩)) (.int .u64 (v 9)) rfl (by kernel_rfl) (by kernel_rfl) (fun _ h => h.at' 9 (by decide) _ rfl) ?_
  with_reducible refine q_val (.int .u64 (bits .xor .u64 (v 4) (v 9))) (by kernel_rfl) (fun _ _ => by kernel_rfl) ?_
  with_reducible refine q_val (.pointer (some ⟨V, 0, none⟩)) (by kernel_rfl) (fun _ _ => by kernel_rfl) ?_
  with_reducible refine q_val (.pointer (some ⟨V, 0, none⟩)) (by kernel_rfl) (fun _ _ => by kernel_rfl) ?_
  with_reducible refine q_val (.pointer (some ⟨V, 14, none⟩)) (by kernel_rfl) (fun _ _ => by kernel_rfl) ?_
  with_reducible refine q_load 34 (.tmp 114) (.pointer (some ⟨V, 14, none⟩)) (.int .u64 (v 14)) rfl (by kernel_rfl) (by kernel_rfl) (fun _ h => h.at' 14 (by decide) _ rfl) ?_
  with_reducible refine q_val (.int .u64 (bits .xor .u64 (bits .xor .u64 (v 4) (v 9)) (v 14))) (by kernel_rfl) (fun _ _ => by kernel_rfl) ?_
  with_reducible refine q_val (.pointer (some ⟨V, 0, none⟩)) (by kernel_rfl) (fun _ _ => by kernel_rfl) ?_
  with_reducible refine q_val (.pointer (some ⟨V, 0, none⟩)) (by kernel_rfl) (fun _ _ => by kernel_rfl) ?_
  with_reducible refine q_val (.pointer (some ⟨V, 19, none⟩)) (by kernel_rfl) (fun _ _ => by kernel_rfl) ?_
  with_reducible refine q_load 34 (.tmp 119) (.pointer (some ⟨V, 19, none⟩)) (.int .u64 (v 19)) rfl (by kernel_rfl) (by kernel_rfl) (fun _ h => h.at' 19 (by decide) _ rfl) ?_
  with_reducible refine q_val (.int .u64 (bits .xor .u64 (bits .xor .u64 (bits .xor .u64 (v 4) (v 9)) (v 14)) (v 19))) (by kernel_rfl) (fun _ _ => by kernel_rfl) ?_
  with_reducible refine q_val (.pointer (some ⟨V, 0, none⟩)) (by kernel_rfl) (fun _ _ => by kernel_rfl) ?_
  with_reducible refine q_val (.pointer (some ⟨V, 0, none⟩)) (by kernel_rfl) (fun _ _ => by kernel_rfl) ?_
  with_reducible refine q_val (.pointer (some ⟨V, 24, none⟩)) (by kernel_rfl) (fun _ _ => by kernel_rfl) ?_
  with_reducible refine q_load 34 (.tmp 124) (.pointer (some ⟨V, 24, none⟩)) (.int .u64 (v 24)) rfl (by kernel_rfl) (by kernel_rfl) (fun _ h => h.at' 24 (by decide) _ rfl) ?_
  with_reducible refine q_val (.int .u64 (bits .xor .u64 (bits .xor .u64 (bits .xor .u64 (bits .xor .u64 (v 4) (v 9)) (v 14)) (v 19)) (v 24))) (by kernel_rfl) (fun _ _ => by kernel_rfl) ?_
  with_reducible refine q_val (.int .u64 (bits .xor .u64 (bits .xor .u64 (bits .xor .u64 (bits .xor .u64 (v 4) (v 9)) (v 14)) (v 19)) (v 24))) (by kernel_rfl) (fun _ _ => by kernel_rfl) ?_
  with_reducible refine wpQuiet_nil ?_
  intro w5 hC5
  clear H0
  have H0 := Lib.hid hC5
  clear hC5
  simp only [Act.put, List.setIfInBounds_toArray, List.set_cons_succ, List.set_cons_zero]
  have e4 : bits .xor .u64 (bits .xor .u64 (bits .xor .u64 (bits .xor .u64 (v 4) (v 9)) (v 14)) (v 19)) (v 24) = kcl v 4 := rfl
  rw [e4]
  clear e4
  obtain ⟨K4, hK4⟩ : ∃ z, kcl v 4 = z := ⟨_, rfl⟩
  rw [hK4]
  -- region 5
  go_wp2_with fail
  refine (rotl 1 (by decide) K1 _).mono ?_
  rintro e w' ⟨rfl, rfl⟩
  go_wp2_with fail
  have e0 : bits .xor .u64 K4 (rul 1 K1) = kds v 0 := by rw [← hK4, ← hK1]; rfl
  rw [e0]
  refine (xcol0 (kds v 0) _ H0.out.row).mono ?_
  rintro e u ⟨rfl, h⟩
  have G0 := Lib.hid (show CK w V tt tl _ u from ⟨H0.out.but.trans h.but, h.row⟩)
  clear h e0
  -- region 6
  go_wp2_with fail
  refine (rotl 1 (by decide) K2 _).mono ?_
  rintro e w' ⟨rfl, rfl⟩
  go_wp2_with fail
  have e1 : bits .xor .u64 K0 (rul 1 K2) = kds v 1 := by rw [← hK0, ← hK2]; rfl
  rw [e1]
  refine (xcol1 (kds v 1) _ G0.out.row).mono ?_
  rintro e u ⟨rfl, h⟩
  have G1 := Lib.hid (show CK w V tt tl _ u from ⟨G0.out.but.trans h.but, h.row⟩)
  clear h e1
  -- region 7
  go_wp2_with fail
  refine (rotl 1 (by decide) K3 _).mono ?_
  rintro e w' ⟨rfl, rfl⟩
  go_wp2_with fail
  have e2 : bits .xor .u64 K1 (rul 1 K3) = kds v 2 := by rw [← hK1, ← hK3]; rfl
  rw [e2]
  refine (xcol2 (kds v 2) _ G1.out.row).mono ?_
  rintro e u ⟨rfl, h⟩
  have G2 := Lib.hid (show CK w V tt tl _ u from ⟨G1.out.but.trans h.but, h.row⟩)
  clear h e2
  -- region 8
  go_wp2_with fail
  refine (rotl 1 (by decide) K4 _).mono ?_
  rintro e w' ⟨rfl, rfl⟩
  go_wp2_with fail
  have e3 : bits .xor .u64 K2 (rul 1 K4) = kds v 3 := by rw [← hK2, ← hK4]; rfl
  rw [e3]
  refine (xcol3 (kds v 3) _ G2.out.row).mono ?_
  rintro e u ⟨rfl, h⟩
  have G3 := Lib.hid (show CK w V tt tl _ u from ⟨G2.out.but.trans h.but, h.row⟩)
  clear h e3
  -- region 9
  go_wp2_with fail
  refine (rotl 1 (by decide) K0 _).mono ?_
  rintro e w' ⟨rfl, rfl⟩
  go_wp2_with fail
  have e4 : bits .xor .u64 K3 (rul 1 K0) = kds v 4 := by rw [← hK3, ← hK0]; rfl
  rw [e4]
  refine (xcol4 (kds v 4) _ G3.out.row).mono ?_
  rintro e u ⟨rfl, h⟩
  have G4 := Lib.hid (show CK w V tt tl _ u from ⟨G3.out.but.trans h.but, h.row⟩)
  clear h e4
  have G5 := G4.out
  rw [kth_eq] at G5
  go_wp2_with fail
  go_end0
  exact ⟨rfl, G5⟩
end Go.Proofs.YtcmpnnfnkcmpcaaDoor
namespace Go.Proofs.YtcmpnnfnkcmpcaaDoor
open Go.RowKit

/-- The bit z of a number of 64. -/
def bi (a : Int) (z : Nat) : Bool := (a % 18446744073709551616).toNat.testBit z
theorem kwrap (x : Nat) (hx : x < 2 ^ 64) : (IntKind.u64.wrap (x : Int) % 18446744073709551616).toNat = x := by
  rw [IntKind.wrap_u64]
  omega
theorem klt (a : Int) : (a % 18446744073709551616).toNat < 2 ^ 64 := by omega
theorem kxor (a b : Int) : bits .xor .u64 a b = IntKind.u64.wrap (((a % 18446744073709551616).toNat ^^^ (b % 18446744073709551616).toNat : Nat) : Int) := by
  unfold bits
  simp
  rfl
theorem kor (a b : Int) : bits .or .u64 a b = IntKind.u64.wrap (((a % 18446744073709551616).toNat ||| (b % 18446744073709551616).toNat : Nat) : Int) := by
  unfold bits
  simp
  rfl
theorem bi_xor (a b : Int) (z : Nat) : bi (bits .xor .u64 a b) z = (bi a z ^^ bi b z) := by
  unfold bi
  rw [kxor, kwrap _ (Nat.xor_lt_two_pow (klt a) (klt b)), Nat.testBit_xor]
theorem bi_or (a b : Int) (z : Nat) : bi (bits .or .u64 a b) z = (bi a z || bi b z) := by
  unfold bi
  rw [kor, kwrap _ (Nat.or_lt_two_pow (klt a) (klt b)), Nat.testBit_or]
theorem bi_nat (x : Nat) (hx : x < 18446744073709551616) (z : Nat) : bi (x : Int) z = x.testBit z := by
  unfold bi
  rw [show ((x : Int) % 18446744073709551616).toNat = x by omega]
theorem bi_big (a : Int) (z : Nat) (hz : 64 ≤ z) : bi a z = false := by
  unfold bi
  exact Nat.testBit_lt_two_pow (Nat.lt_of_lt_of_le (klt a) (Nat.pow_le_pow_right (by decide) hz))
/-- The bits of a number turned up. -/
theorem bi_rul (k X z : Nat) (hX : X < 18446744073709551616) (hz : z < 64) : bi (rul k (X : Int)) z = bi (X : Int) ((z + (64 - k % 64)) % 64) := by
  unfold rul
  have hm : k % 64 < 64 := Nat.mod_lt _ (by decide)
  obtain ⟨s, hs⟩ : ∃ s, k % 64 = s := ⟨_, rfl⟩
  rw [hs] at hm ⊢
  have e1 : ((X : Int) * 2 ^ s % 18446744073709551616) = ((X * 2 ^ s % 2 ^ 64 : Nat) : Int) := by
    rw [Int.natCast_emod, Int.natCast_mul, Int.natCast_pow]; rfl
  have e2 : ((X : Int) / 2 ^ (64 - s)) = ((X / 2 ^ (64 - s) : Nat) : Int) := by
    rw [Int.natCast_ediv, Int.natCast_pow]; rfl
  have l2 : X / 2 ^ (64 - s) < 18446744073709551616 := Nat.lt_of_le_of_lt (Nat.div_le_self _ _) hX
  rw [e1, e2, bi_or, bi_nat _ (Nat.mod_lt _ (by decide)), bi_nat _ l2, bi_nat _ hX, show (18446744073709551616 : Nat) = 2 ^ 64 from rfl, Nat.testBit_mod_two_pow, Nat.testBit_mul_two_pow, Nat.testBit_div_two_pow]
  by_cases h : s ≤ z
  · have h0 : X.testBit (64 - s + z) = false := Nat.testBit_lt_two_pow (Nat.lt_of_lt_of_le hX (by rw [show (18446744073709551616 : Nat) = 2 ^ 64 from rfl]; exact Nat.pow_le_pow_right (by decide) (by omega)))
    rw [Nat.add_comm z (64 - s)] at *
    have h3 : (64 - s + z) % 64 = z - s := by omega
    simp [h, hz, h3, h0]
  · have h3 : (z + (64 - s)) % 64 = z + (64 - s) := by omega
    simp [h, h3]
end Go.Proofs.YtcmpnnfnkcmpcaaDoor
namespace Go.Proofs.YtcmpnnfnkcmpcaaDoor
/-- The columns' law, doubled. -/
theorem kdbl {P : Nat → Nat → Bool} {n : Nat} (H : ∀ x z, P (x + n) (z + n) = (P x (z + n) ^^ P (x + 2 * n) z)) : ∀ x z, P (x + 2 * n) (z + 2 * n) = (P x (z + 2 * n) ^^ P (x + 2 * (2 * n)) z) := by
  intro x z
  have h1 := H (x + n) (z + n)
  have h2 := H x (z + n)
  have h3 := H (x + 2 * n) z
  rw [show x + n + n = x + 2 * n by omega, show z + n + n = z + 2 * n by omega, show x + n + 2 * n = x + 2 * n + n by omega] at h1
  rw [show z + n + n = z + 2 * n by omega] at h2
  rw [show x + 2 * n + 2 * n = x + 2 * (2 * n) by omega] at h3
  rw [h1, h2, h3]
  cases P x (z + 2 * n) <;> cases P (x + 2 * n) (z + n) <;> cases P (x + 2 * (2 * n)) z <;> rfl
/-- Five columns that are each the sum of their neighbours are none. -/
theorem kfive : ∀ a b c d e : Bool, e = (a ^^ d) → a = (b ^^ e) → b = (c ^^ a) → c = (d ^^ b) → d = (e ^^ c) → a = false ∧ b = false ∧ c = false ∧ d = false ∧ e = false := by decide
theorem parity_zero {P : Nat → Nat → Bool} (hx : ∀ x z, P (x + 5) z = P x z) (hz : ∀ x z, P x (z + 64) = P x z) (H : ∀ x z, P (x + 1) (z + 1) = (P x (z + 1) ^^ P (x + 2) z)) : ∀ x z, P x z = false := by
  have H1 : ∀ x z, P (x + 1) (z + 1) = (P x (z + 1) ^^ P (x + 2 * 1) z) := H
  have H2 := kdbl H1
  have H4 := kdbl H2
  have H8 := kdbl H4
  have H16 := kdbl H8
  have H32 := kdbl H16
  have H64 := kdbl H32
  simp only [Nat.reduceMul] at H64
  have x5 : ∀ k x z, P (x + 5 * k) z = P x z := by
    intro k
    induction k with
    | zero => intro x z; rfl
    | succ k ih => intro x z; rw [show x + 5 * (k + 1) = x + 5 * k + 5 by omega, hx, ih]
  have K : ∀ x z, P (x + 4) z = (P x z ^^ P (x + 3) z) := by
    intro x z
    have h := H64 x z
    rw [hz, hz, show x + 64 = x + 4 + 5 * 12 by omega, x5, show x + 128 = x + 3 + 5 * 25 by omega, x5] at h
    exact h
  have F : ∀ z, P 0 z = false ∧ P 1 z = false ∧ P 2 z = false ∧ P 3 z = false ∧ P 4 z = false := by
    intro z
    have k0 := K 0 z
    have k1 := K 1 z
    have k2 := K 2 z
    have k3 := K 3 z
    have k4 := K 4 z
    have e5 := hx 0 z
    have e6 := hx 1 z
    have e7 := hx 2 z
    have e8 := hx 3 z
    simp only [Nat.reduceAdd] at k0 k1 k2 k3 k4 e5 e6 e7 e8
    rw [e5] at k1 k2
    rw [e6] at k2 k3
    rw [e7] at k3 k4
    rw [e8] at k4
    exact kfive (P 0 z) (P 1 z) (P 2 z) (P 3 z) (P 4 z) k0 k1 k2 k3 k4
  intro x z
  obtain ⟨f0, f1, f2, f3, f4⟩ := F z
  rw [show x = x % 5 + 5 * (x / 5) by omega, x5]
  have : x % 5 = 0 ∨ x % 5 = 1 ∨ x % 5 = 2 ∨ x % 5 = 3 ∨ x % 5 = 4 := by omega
  rcases this with h | h | h | h | h <;> rw [h] <;> assumption
/-- A row of the last step: which bits there were. -/
theorem chi5 : ∀ a b c d e : Bool, ∀ a' b' c' d' e' : Bool, (a ^^ (!b && c)) = (a' ^^ (!b' && c')) → (b ^^ (!c && d)) = (b' ^^ (!c' && d')) → (c ^^ (!d && e)) = (c' ^^ (!d' && e')) → (d ^^ (!e && a)) = (d' ^^ (!e' && a')) → (e ^^ (!a && b)) = (e' ^^ (!a' && b')) →
    a = a' ∧ b = b' ∧ c = c' ∧ d = d' ∧ e = e' := by decide +kernel
/-- THE FIRST STEP: a state that it takes to nothing is nothing. D x y z: the bit at column x, row y, place z. -/
theorem theta_zero {D : Nat → Nat → Nat → Bool} (hx : ∀ x y z, D (x + 5) y z = D x y z) (hz : ∀ x y z, D x y (z + 64) = D x y z)
    (H : ∀ x y z, y < 5 → D (x + 1) y (z + 1) = ((D x 0 (z + 1) ^^ D x 1 (z + 1) ^^ D x 2 (z + 1) ^^ D x 3 (z + 1) ^^ D x 4 (z + 1)) ^^ (D (x + 2) 0 z ^^ D (x + 2) 1 z ^^ D (x + 2) 2 z ^^ D (x + 2) 3 z ^^ D (x + 2) 4 z))) : ∀ x y z, y < 5 → D x y z = false := by
  have hp := parity_zero (P := fun x z => D x 0 z ^^ D x 1 z ^^ D x 2 z ^^ D x 3 z ^^ D x 4 z) (fun x z => by simp only [hx]) (fun x z => by simp only [hz]) (fun x z => by
    simp only [H x 0 z (by omega), H x 1 z (by omega), H x 2 z (by omega), H x 3 z (by omega), H x 4 z (by omega)]
    generalize (D x 0 (z + 1) ^^ D x 1 (z + 1) ^^ D x 2 (z + 1) ^^ D x 3 (z + 1) ^^ D x 4 (z + 1)) = p
    generalize (D (x + 2) 0 z ^^ D (x + 2) 1 z ^^ D (x + 2) 2 z ^^ D (x + 2) 3 z ^^ D (x + 2) 4 z) = q
    cases p <;> cases q <;> rfl)
  intro x y z hy
  have h := H (x + 4) y (z + 63) hy
  have h1 := hp (x + 4) (z + 63 + 1)
  have h2 := hp (x + 4 + 2) (z + 63)
  rw [h1, h2, show x + 4 + 1 = x + 5 by omega, hx, show z + 63 + 1 = z + 64 by omega, hz] at h
  exact h
end Go.Proofs.YtcmpnnfnkcmpcaaDoor
namespace Go.Proofs.YtcmpnnfnkcmpcaaDoor
open Go.RowKit

theorem kxor_nat (a b : Int) : ∃ X : Nat, X < 18446744073709551616 ∧ bits .xor .u64 a b = (X : Int) := by
  rw [kxor, IntKind.wrap_u64]
  exact ⟨((((a % 18446744073709551616).toNat ^^^ (b % 18446744073709551616).toNat : Nat) : Int) % 18446744073709551616).toNat, by omega, by omega⟩
theorem bi_up1 (a b : Int) (z : Nat) : bi (rul 1 (bits .xor .u64 a b)) ((z + 1) % 64) = bi (bits .xor .u64 a b) (z % 64) := by
  obtain ⟨X, hX, e⟩ := kxor_nat a b
  rw [e, bi_rul 1 X _ hX (Nat.mod_lt _ (by decide)), show ((z + 1) % 64 + (64 - 1 % 64)) % 64 = z % 64 by omega]
theorem bi_kcl (v : Nat → Int) (x z : Nat) : bi (kcl v x) z = (bi (v x) z ^^ bi (v (x + 5)) z ^^ bi (v (x + 10)) z ^^ bi (v (x + 15)) z ^^ bi (v (x + 20)) z) := by
  unfold kcl
  simp only [bi_xor]
theorem bi_kth (v : Nat → Int) (x y z : Nat) (hy : y < 5) : bi (kth v ((x + 1) % 5 + 5 * y)) ((z + 1) % 64) = (bi (v ((x + 1) % 5 + 5 * y)) ((z + 1) % 64) ^^ (bi (kcl v (x % 5)) ((z + 1) % 64) ^^ bi (kcl v ((x + 2) % 5)) (z % 64))) := by
  have hx : (x + 1) % 5 < 5 := Nat.mod_lt _ (by decide)
  unfold kth
  rw [if_pos (by omega), bi_xor, show ((x + 1) % 5 + 5 * y) % 5 = (x + 1) % 5 by omega]
  unfold kds
  rw [bi_xor, show ((x + 1) % 5 + 4) % 5 = x % 5 by omega, show ((x + 1) % 5 + 1) % 5 = (x + 2) % 5 by omega]
  congr 2
  exact bi_up1 _ _ _
theorem xor10 : ∀ a b c d e a' b' c' d' e' : Bool, ((a ^^ a') ^^ (b ^^ b') ^^ (c ^^ c') ^^ (d ^^ d') ^^ (e ^^ e')) = ((a ^^ b ^^ c ^^ d ^^ e) ^^ (a' ^^ b' ^^ c' ^^ d' ^^ e')) := by decide +kernel
theorem xor6 : ∀ a p q a' p' q' : Bool, (a ^^ (p ^^ q)) = (a' ^^ (p' ^^ q')) → (a ^^ a') = ((p ^^ p') ^^ (q ^^ q')) := by decide +kernel
theorem bi_inj {a b : Int} (ha : 0 ≤ a ∧ a < 18446744073709551616) (hb : 0 ≤ b ∧ b < 18446744073709551616) (h : ∀ z, z < 64 → bi a z = bi b z) : a = b := by
  have e : (a % 18446744073709551616).toNat = (b % 18446744073709551616).toNat := Nat.eq_of_testBit_eq fun z => by
    by_cases hz : z < 64
    · exact h z hz
    · exact (bi_big a z (by omega)).trans (bi_big b z (by omega)).symm
  omega
theorem bi_kcl2 (v u : Nat → Int) (x z : Nat) : (bi (kcl v x) z ^^ bi (kcl u x) z) = ((bi (v x) z ^^ bi (u x) z) ^^ (bi (v (x + 5)) z ^^ bi (u (x + 5)) z) ^^ (bi (v (x + 10)) z ^^ bi (u (x + 10)) z) ^^ (bi (v (x + 15)) z ^^ bi (u (x + 15)) z) ^^ (bi (v (x + 20)) z ^^ bi (u (x + 20)) z)) := by
  rw [bi_kcl, bi_kcl]
  exact (xor10 _ _ _ _ _ _ _ _ _ _).symm
/-- THE FIRST STEP IS ONE-TO-ONE. -/
theorem kth_inj {v u : Nat → Int} (hv : ∀ i, i < 25 → 0 ≤ v i ∧ v i < 18446744073709551616) (hu : ∀ i, i < 25 → 0 ≤ u i ∧ u i < 18446744073709551616) (h : ∀ i, i < 25 → kth v i = kth u i) : ∀ i, i < 25 → v i = u i := by
  have H := theta_zero (D := fun x y z => bi (v (x % 5 + 5 * y)) (z % 64) ^^ bi (u (x % 5 + 5 * y)) (z % 64)) (fun x y z => by simp only [Nat.add_mod_right]) (fun x y z => by simp only [Nat.add_mod_right]) (fun x y z hy => by
    have hx : (x + 1) % 5 < 5 := Nat.mod_lt _ (by decide)
    have e := congrArg (fun a => bi a ((z + 1) % 64)) (h ((x + 1) % 5 + 5 * y) (by omega))
    simp only [bi_kth _ _ _ _ hy] at e
    have e2 := xor6 _ _ _ _ _ _ e
    exact e2.trans (congr (congrArg Bool.xor (bi_kcl2 v u (x % 5) ((z + 1) % 64))) (bi_kcl2 v u ((x + 2) % 5) (z % 64))))
  intro i hi
  refine bi_inj (hv i hi) (hu i hi) fun z hz => ?_
  have e := H (i % 5) (i / 5) z (by omega)
  simp only [Nat.mod_mod, show i % 5 + 5 * (i / 5) = i by omega, Nat.mod_eq_of_lt hz] at e
  cases h1 : bi (v i) z <;> cases h2 : bi (u i) z <;> simp [h1, h2] at e ⊢
end Go.Proofs.YtcmpnnfnkcmpcaaDoor
namespace Go.Proofs.YtcmpnnfnkcmpcaaDoor
open Go.RowKit

theorem kandnot (a b : Int) : ∃ X : Nat, X < 18446744073709551616 ∧ bits .andNot .u64 a b = (X : Int) ∧ ∀ z, z < 64 → X.testBit z = (bi a z && !bi b z) := by
  have e : bits .andNot .u64 a b = IntKind.u64.wrap (((BitVec.ofInt 64 a &&& ~~~ BitVec.ofInt 64 b).toNat : Nat) : Int) := by
    unfold bits
    simp
    rfl
  have hb : (BitVec.ofInt 64 a &&& ~~~ BitVec.ofInt 64 b).toNat < 18446744073709551616 := (BitVec.ofInt 64 a &&& ~~~ BitVec.ofInt 64 b).isLt
  refine ⟨(BitVec.ofInt 64 a &&& ~~~ BitVec.ofInt 64 b).toNat, hb, ?_, ?_⟩
  · rw [e, IntKind.wrap_u64]; omega
  · intro z hz
    have ha : ∀ c : Int, (BitVec.ofInt 64 c).getLsbD z = bi c z := fun c => by
      unfold bi BitVec.getLsbD
      rw [BitVec.toNat_ofInt]
      rfl
    show (BitVec.ofInt 64 a &&& ~~~ BitVec.ofInt 64 b).getLsbD z = _
    rw [BitVec.getLsbD_and, BitVec.getLsbD_not, ha, ha]
    simp [hz]
theorem bi_andnot (a b : Int) (z : Nat) (hz : z < 64) : bi (bits .andNot .u64 a b) z = (bi a z && !bi b z) := by
  obtain ⟨X, hX, e, h⟩ := kandnot a b
  rw [e, bi_nat _ hX]
  exact h z hz
/-- The state behind the third step. -/
def kch (v : Nat → Int) (i : Nat) : Int := bits .xor .u64 (v i) (bits .andNot .u64 (v ((i % 5 + 2) % 5 + 5 * (i / 5))) (v ((i % 5 + 1) % 5 + 5 * (i / 5))))
theorem bi_kch (v : Nat → Int) (x y z : Nat) (hx : x < 5) (hz : z < 64) : bi (kch v (x + 5 * y)) z = (bi (v (x + 5 * y)) z ^^ (!bi (v ((x + 1) % 5 + 5 * y)) z && bi (v ((x + 2) % 5 + 5 * y)) z)) := by
  unfold kch
  rw [show (x + 5 * y) % 5 = x by omega, show (x + 5 * y) / 5 = y by omega, bi_xor, bi_andnot _ _ _ hz, Bool.and_comm]
/-- THE THIRD STEP IS ONE-TO-ONE. -/
theorem kch_inj {v u : Nat → Int} (hv : ∀ i, i < 25 → 0 ≤ v i ∧ v i < 18446744073709551616) (hu : ∀ i, i < 25 → 0 ≤ u i ∧ u i < 18446744073709551616) (h : ∀ i, i < 25 → kch v i = kch u i) : ∀ i, i < 25 → v i = u i := by
  have K : ∀ y z, y < 5 → z < 64 → ∀ x, x < 5 → bi (v (x + 5 * y)) z = bi (u (x + 5 * y)) z := by
    intro y z hy hz
    have e : ∀ x, x < 5 → (bi (v (x + 5 * y)) z ^^ (!bi (v ((x + 1) % 5 + 5 * y)) z && bi (v ((x + 2) % 5 + 5 * y)) z)) = (bi (u (x + 5 * y)) z ^^ (!bi (u ((x + 1) % 5 + 5 * y)) z && bi (u ((x + 2) % 5 + 5 * y)) z)) := fun x hx => by
      rw [← bi_kch v x y z hx hz, ← bi_kch u x y z hx hz, h _ (by omega)]
    have q := chi5 (bi (v (0 + 5 * y)) z) (bi (v (1 + 5 * y)) z) (bi (v (2 + 5 * y)) z) (bi (v (3 + 5 * y)) z) (bi (v (4 + 5 * y)) z) (bi (u (0 + 5 * y)) z) (bi (u (1 + 5 * y)) z) (bi (u (2 + 5 * y)) z) (bi (u (3 + 5 * y)) z) (bi (u (4 + 5 * y)) z) (e 0 (by decide)) (e 1 (by decide)) (e 2 (by decide)) (e 3 (by decide)) (e 4 (by decide))
    intro x hx
    have hc : x = 0 ∨ x = 1 ∨ x = 2 ∨ x = 3 ∨ x = 4 := by omega
    rcases hc with rfl | rfl | rfl | rfl | rfl
    · exact q.1
    · exact q.2.1
    · exact q.2.2.1
    · exact q.2.2.2.1
    · exact q.2.2.2.2
  intro i hi
  refine bi_inj (hv i hi) (hu i hi) fun z hz => ?_
  have e := K (i / 5) z (by omega) hz (i % 5) (by omega)
  rwa [show i % 5 + 5 * (i / 5) = i by omega] at e
end Go.Proofs.YtcmpnnfnkcmpcaaDoor
namespace Go.Proofs.YtcmpnnfnkcmpcaaDoor
open Go.RowKit

theorem rul_inj (k : Nat) {a b : Int} (ha : 0 ≤ a ∧ a < 18446744073709551616) (hb : 0 ≤ b ∧ b < 18446744073709551616) (h : rul k a = rul k b) : a = b := by
  refine bi_inj ha hb fun z hz => ?_
  obtain ⟨A, rfl⟩ : ∃ A : Nat, a = (A : Int) := ⟨a.toNat, by omega⟩
  obtain ⟨B, rfl⟩ : ∃ B : Nat, b = (B : Int) := ⟨b.toNat, by omega⟩
  have e : bi (rul k A) ((z + k % 64) % 64) = bi (rul k B) ((z + k % 64) % 64) := by rw [h]
  rw [bi_rul k A _ (by omega) (Nat.mod_lt _ (by decide)), bi_rul k B _ (by omega) (Nat.mod_lt _ (by decide)), show ((z + k % 64) % 64 + (64 - k % 64)) % 64 = z by omega] at e
  exact e
/-- From where a lane comes to the place j; how far it is turned up; where the lane at i goes to. -/
def ksrc (j : Nat) : Nat := [0, 6, 12, 18, 24, 3, 9, 10, 16, 22, 1, 7, 13, 19, 20, 4, 5, 11, 17, 23, 2, 8, 14, 15, 21].getD j 0
def ktrn (j : Nat) : Nat := [0, 300, 171, 21, 78, 28, 276, 3, 45, 253, 1, 6, 153, 136, 210, 91, 36, 10, 15, 120, 190, 55, 231, 105, 66].getD j 0
def kdst (i : Nat) : Nat := [0, 10, 20, 5, 15, 16, 1, 11, 21, 6, 7, 17, 2, 12, 22, 23, 8, 18, 3, 13, 14, 24, 9, 19, 4].getD i 0
theorem kdst_all : ∀ i, i < 25 → kdst i < 25 ∧ ksrc (kdst i) = i ∧ (kdst i = 0 → i = 0) := by decide +kernel
/-- The state behind the moves. -/
def kmv (v : Nat → Int) (j : Nat) : Int := if j = 0 then v 0 else rul (ktrn j) (v (ksrc j))
/-- THE MOVES ARE ONE-TO-ONE. -/
theorem kmv_inj {v u : Nat → Int} (hv : ∀ i, i < 25 → 0 ≤ v i ∧ v i < 18446744073709551616) (hu : ∀ i, i < 25 → 0 ≤ u i ∧ u i < 18446744073709551616) (h : ∀ i, i < 25 → kmv v i = kmv u i) : ∀ i, i < 25 → v i = u i := by
  intro i hi
  obtain ⟨h1, h2, h3⟩ := kdst_all i hi
  have e := h (kdst i) h1
  unfold kmv at e
  by_cases h0 : kdst i = 0
  · rw [if_pos h0, if_pos h0] at e
    rw [h3 h0]
    exact e
  · rw [if_neg h0, if_neg h0, h2] at e
    exact rul_inj _ (hv i hi) (hu i hi) e
/-- Bits of two numbers are a number of 64 bits. -/
theorem kxor_rng (a b : Int) : 0 ≤ bits .xor .u64 a b ∧ bits .xor .u64 a b < 18446744073709551616 := by
  obtain ⟨X, hX, e⟩ := kxor_nat a b
  omega
theorem rul_rng (k : Nat) (a : Int) : 0 ≤ rul k a ∧ rul k a < 18446744073709551616 := by
  unfold rul
  rw [kor, IntKind.wrap_u64]
  omega
theorem kth_rng (v : Nat → Int) (i : Nat) (hi : i < 25) : 0 ≤ kth v i ∧ kth v i < 18446744073709551616 := by
  unfold kth
  rw [if_pos hi]
  exact kxor_rng _ _
theorem kmv_rng (v : Nat → Int) (hv : 0 ≤ v 0 ∧ v 0 < 18446744073709551616) (i : Nat) : 0 ≤ kmv v i ∧ kmv v i < 18446744073709551616 := by
  unfold kmv
  by_cases h : i = 0
  · rw [if_pos h]; exact hv
  · rw [if_neg h]; exact rul_rng _ _
theorem kch_rng (v : Nat → Int) (i : Nat) : 0 ≤ kch v i ∧ kch v i < 18446744073709551616 := kxor_rng _ _
/-- A round with the constant c. -/
def krd (c : Int) (v : Nat → Int) (i : Nat) : Int := if i = 0 then bits .xor .u64 (kch (kmv (kth v)) 0) c else kch (kmv (kth v)) i
theorem krd_rng (c : Int) (v : Nat → Int) (i : Nat) : 0 ≤ krd c v i ∧ krd c v i < 18446744073709551616 := by
  unfold krd
  by_cases h : i = 0
  · rw [if_pos h]; exact kxor_rng _ _
  · rw [if_neg h]; exact kch_rng _ _
theorem xor_inj {a b c : Int} (ha : 0 ≤ a ∧ a < 18446744073709551616) (hb : 0 ≤ b ∧ b < 18446744073709551616) (h : bits .xor .u64 a c = bits .xor .u64 b c) : a = b := by
  refine bi_inj ha hb fun z hz => ?_
  have e := congrArg (fun x => bi x z) h
  simp only [bi_xor] at e
  cases h1 : bi a z <;> cases h2 : bi b z <;> cases h3 : bi c z <;> simp [h1, h2, h3] at e ⊢
/-- A ROUND IS ONE-TO-ONE. -/
theorem krd_inj (c : Int) {v u : Nat → Int} (hv : ∀ i, i < 25 → 0 ≤ v i ∧ v i < 18446744073709551616) (hu : ∀ i, i < 25 → 0 ≤ u i ∧ u i < 18446744073709551616) (h : ∀ i, i < 25 → krd c v i = krd c u i) : ∀ i, i < 25 → v i = u i := by
  refine kth_inj hv hu (kmv_inj (fun i hi => kth_rng v i hi) (fun i hi => kth_rng u i hi) (kch_inj (fun i _ => kmv_rng _ (kth_rng v 0 (by decide)) i) (fun i _ => kmv_rng _ (kth_rng u 0 (by decide)) i) fun i hi => ?_))
  have e := h i hi
  unfold krd at e
  by_cases h0 : i = 0
  · rw [if_pos h0, if_pos h0] at e
    rw [h0]
    exact xor_inj (kch_rng _ _) (kch_rng _ _) e
  · rw [if_neg h0, if_neg h0] at e
    exact e
/-- The state behind n rounds with the constants c 0, c 1 .. -/
def kpm (c : Nat → Int) : Nat → (Nat → Int) → Nat → Int
  | 0, v => v
  | n + 1, v => krd (c n) (kpm c n v)
theorem kpm_rng (c : Nat → Int) (n : Nat) {v : Nat → Int} (hv : ∀ i, i < 25 → 0 ≤ v i ∧ v i < 18446744073709551616) : ∀ i, i < 25 → 0 ≤ kpm c n v i ∧ kpm c n v i < 18446744073709551616 := by
  cases n with
  | zero => exact hv
  | succ n => exact fun i _ => krd_rng _ _ _
/-- ALL ROUNDS ARE ONE-TO-ONE. -/
theorem kpm_inj (c : Nat → Int) (n : Nat) {v u : Nat → Int} (hv : ∀ i, i < 25 → 0 ≤ v i ∧ v i < 18446744073709551616) (hu : ∀ i, i < 25 → 0 ≤ u i ∧ u i < 18446744073709551616) (h : ∀ i, i < 25 → kpm c n v i = kpm c n u i) : ∀ i, i < 25 → v i = u i := by
  induction n with
  | zero => exact h
  | succ n ih => exact ih (krd_inj (c n) (kpm_rng c n hv) (kpm_rng c n hu) h)
end Go.Proofs.YtcmpnnfnkcmpcaaDoor

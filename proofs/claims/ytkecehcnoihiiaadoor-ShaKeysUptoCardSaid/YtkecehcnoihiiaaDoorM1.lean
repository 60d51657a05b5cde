/- Regions that draw their order, by an invariant that may speak of several slots: what each operation leaves in the frame and in the world, said of its own slot and of the slots of those that it waits for. So a store may say where its block lies. No program is named here. (With it, merged: RMix · RArr · Q · QL · Tail · SDown · SSpread · SMix · KBy · Inv · Tie0.) -/
import Derived.Test.YtkecehcnoihiiaaDoorProg
import Derived.WalkKit
import Derived.WalkSpells
import Derived.WalkLawsBesides
import Derived.LoopN
import Derived.Handy
import Derived.Outline
import Derived.RegionTactic
import Derived.BigRegion
import Derived.BigQuiet
import Derived.WalkSmall
import Derived.OwnWalk
import Derived.Lib.Hide
import Derived.Laws.Bits64b
import Derived.Laws.Rows
import Derived.Laws.Tables
import Derived.Laws.OwnMore
import Derived.Laws.CopyOwn
import Derived.Deep.AppendLies
import Derived.Deep.LoopGhost
import Derived.Deep.Quiet
import Derived.Deep.QuietTactic
import Derived.StillTail
import Derived.StillTailTactics
import Derived.StillTactics
import Derived.Laws.AppendOwnNone
import Derived.Lib.AppendZeros
import Derived.Lib.SliceRun
import Derived.Still
namespace Go.Proofs.YtkecehcnoihiiaaDoor
open Go.RowKit

/-- A number turned up by s. -/
def rup (s : Nat) (x : Int) : Int := bits .or .u32 (x * 2 ^ s % 4294967296) (x / 2 ^ (32 - s))
theorem and_u64_31 (s : Nat) (h : s < 32) : bits .and .u64 (s : Int) 31 = (s : Int) := by
  have h1 := bits_and_u64_nat s 31 (by omega) (by omega)
  rw [show s &&& 31 = s from by rw [show 31 = 2 ^ 5 - 1 from rfl, Nat.and_two_pow_sub_one_eq_mod, Nat.mod_eq_of_lt h]] at h1
  exact h1
set_option maxRecDepth 100000 in
theorem rot_any (x : Int) (s : Nat) (hs : s < 32) (hs0 : 0 < s) (w : World) : Calls Tryd.prog 33 #[.int .u32 x, .int .i64 s] w fun e w' => e = .returned (.int .u32 (rup s x)) ∧ w = w' := by
  have ha := and_u64_31 s hs
  have hw : IntKind.u64.wrap (s : Int) = (s : Int) := by rw [IntKind.wrap_u64]; omega
  obtain ⟨t, ht⟩ : ∃ t : Nat, (32 : Int) - (s : Int) = (t : Int) := ⟨32 - s, by omega⟩
  have HT : Hid (32 - s = t) := Lib.hid (by omega)
  have h0 : (0 : Int) ≤ s := by omega
  have h1 : (s : Int) < 32 := by omega
  have h2 : (0 : Int) ≤ t := by omega
  have h3 : (t : Int) < 32 := by omega
  clear hs hs0
  go_enter Tryd.func33, Tryd.ntmps33
  go_wp2
  go_ret
  unfold rup
  rw [HT.out]
  exact ⟨rfl, rfl⟩
theorem rot_ten (x : Int) (w : World) : Calls Tryd.prog 33 #[.int .u32 x, .int .i64 10] w fun e w' => e = .returned (.int .u32 (rup 10 x)) ∧ w = w' := rot_any x 10 (by omega) (by omega) w
end Go.Proofs.YtkecehcnoihiiaaDoor
namespace Go.Proofs.YtkecehcnoihiiaaDoor
open Go.RowKit

/-- An array of n integers. -/
def ar (k : IntKind) (n : Nat) (f : Nat → Int) : Array Value := ((List.range n).map fun j => Value.int k (f j)).toArray
theorem ar_size (k : IntKind) (n : Nat) (f : Nat → Int) : (ar k n f).size = n := by simp [ar]
theorem ar_at (k : IntKind) (n : Nat) (f : Nat → Int) (j : Nat) (h : j < n) : (ar k n f)[j]? = some (.int k (f j)) := by simp [ar, h]
def updI (f : Nat → Int) (p : Nat) (y : Int) (j : Nat) : Int := if j = p then y else f j
theorem ar_set (k : IntKind) (n : Nat) (f : Nat → Int) (p : Nat) (y : Int) (h : p < n) : (ar k n f).setIfInBounds p (.int k y) = ar k n (updI f p y) := by
  apply Array.ext
  · simp [ar]
  · intro i h1 h2
    have hi : i < n := by simpa [ar] using h2
    by_cases e : i = p
    · subst e; simp [ar, updI]
    · simp [ar, updI, e, Ne.symm e]
theorem ar_congr {k : IntKind} {n : Nat} {f g : Nat → Int} (h : ∀ j, j < n → f j = g j) : ar k n f = ar k n g := by
  unfold ar
  congr 1
  apply List.map_congr_left
  intro j hj
  rw [h j (by simpa using hj)]
theorem ar_one (k : IntKind) (n : Nat) (f : Nat → Int) : (ar k n f).all (·.oneCell') = true := by simp [ar, Value.oneCell']
theorem ar_cells (k : IntKind) (n : Nat) (f : Nat → Int) : (Value.agg (ar k n f)).cells = ar k n f := by
  simp [Value.cells]
theorem index_ar {P : Program} {t e : TypeId} {k : IntKind} {n : Nat} {f : Nat → Int} {i : Nat} (w : World) (ht : P.underlying t = some (.array n e)) (hs : (sizeOf e).run P w = .ok 1 w) (ha : (isAgg e).run P w = .ok false w) (h : i < n) : (Instr.index t (.agg (ar k n f)) (.int .i64 i)).run P w = .ok (.int k (f i)) w := by
  have h0 : (0 : Int) ≤ i := by omega
  have h1 : ¬ n ≤ i := by omega
  have hc := ar_at k n f i h
  simp [Instr.index, asIntOf, run_underlying ht, part, hs, ha, h0, h1, hc, Result.andThen]
theorem heap3 (w : World) (A B C : Obj) : (((w.alloc A).alloc B).alloc C).heap[w.heap.size]? = some A ∧ (((w.alloc A).alloc B).alloc C).heap[w.heap.size + 1]? = some B ∧ (((w.alloc A).alloc B).alloc C).heap[w.heap.size + 1 + 1]? = some C := by
  show (((w.heap.push A).push B).push C)[w.heap.size]? = _ ∧ (((w.heap.push A).push B).push C)[w.heap.size + 1]? = _ ∧ (((w.heap.push A).push B).push C)[w.heap.size + 1 + 1]? = _
  refine ⟨?_, ?_, ?_⟩
  · simp [Array.getElem?_push]
    omega
  · have h : w.heap.size + 1 ≠ (((w.heap.push A).push B)).size := by simp
    rw [Array.getElem?_push, if_neg h, Array.getElem?_push, if_pos (by simp)]
  · rw [Array.getElem?_push, if_pos (by simp)]
theorem or_u32 (a b : Nat) (ha : a < 4294967296) (hb : b < 4294967296) : bits .or .u32 (a : Int) (b : Int) = ((a ||| b : Nat) : Int) := by
  have hx : a ||| b < 2 ^ 32 := Nat.or_lt_two_pow (by omega) (by omega)
  have h1 : (BitVec.ofInt 32 (a : Int)).toNat = a := by
    rw [BitVec.ofInt_natCast, BitVec.toNat_ofNat]; exact Nat.mod_eq_of_lt (by omega)
  have h2 : (BitVec.ofInt 32 (b : Int)).toNat = b := by
    rw [BitVec.ofInt_natCast, BitVec.toNat_ofNat]; exact Nat.mod_eq_of_lt (by omega)
  show IntKind.u32.wrap ((BitVec.ofInt 32 (a : Int) ||| BitVec.ofInt 32 (b : Int)).toNat : Int) = _
  rw [BitVec.toNat_or, h1, h2, IntKind.wrap_u32]
  omega
theorem or_up {D x s : Nat} (hx : x < 256) (hs : s ≤ 24) (hD : D < 2 ^ s) : bits .or .u32 (D : Int) ((x : Int) * 2 ^ s % 4294967296) = ((D + 2 ^ s * x : Nat) : Int) ∧ D + 2 ^ s * x < 2 ^ (s + 8) := by
  have hp : 2 ^ (s + 8) ≤ 2 ^ 32 := Nat.pow_le_pow_right (by omega) (by omega)
  have h1 : 2 ^ s * (x + 1) ≤ 2 ^ s * 256 := Nat.mul_le_mul_left _ hx
  have h2 : 2 ^ (s + 8) = 2 ^ s * 256 := by rw [Nat.pow_add]
  have h3 : D + 2 ^ s * x < 2 ^ (s + 8) := by rw [h2]; rw [Nat.mul_add, Nat.mul_one] at h1; omega
  refine ⟨?_, h3⟩
  have e1 : ((x : Int) * 2 ^ s) = ((2 ^ s * x : Nat) : Int) := by simp [Int.mul_comm]
  have e2 : ((2 ^ s * x : Nat) : Int) % 4294967296 = ((2 ^ s * x : Nat) : Int) := by
    have : 2 ^ s * x < 4294967296 := by omega
    omega
  rw [e1, e2, or_u32 D _ (by omega) (by omega), Nat.or_comm, ← Nat.two_pow_add_eq_or_of_lt hD]
  congr 1
  omega
end Go.Proofs.YtkecehcnoihiiaaDoor
namespace Go.Proofs.YtkecehcnoihiiaaDoor
open Go.RowKit

section
variable {P : Program} {ops : Array Oper} {C : World → Prop} {Q : Act → Prop} {a : Act} {o : Oper} {rest : List Oper}

/-- An operation that is passed over. -/
theorem q_skip (hw : Region.wanted o (yielded ops a.tmps) = false) (h : wpQuiet P ops C Q rest (a.put o.dst undef)) : wpQuiet P ops C Q (o :: rest) a :=
  wpQuiet_step fun K hK => by rw [if_neg (by rw [hw]; exact Bool.false_ne_true)]; exact hK _ h

/-- An operation that is wanted: one value, in every world of the class. -/
theorem q_step (v : Value) (hw : Region.wanted o (yielded ops a.tmps) = true) (hv : ∀ w, C w → o.quietAt P a C w v) (h : wpQuiet P ops C Q rest (a.put o.dst v)) : wpQuiet P ops C Q (o :: rest) a :=
  wpQuiet_step fun K hK => by rw [if_pos hw]; exact ⟨v, hv, hK _ h⟩

/-- One that leaves the world as it is. -/
theorem q_val (v : Value) (hw : Region.wanted o (yielded ops a.tmps) = true) (hv : ∀ w, C w → (execOp a.eval o).run P w = .ok (.value v) w) (h : wpQuiet P ops C Q rest (a.put o.dst v)) : wpQuiet P ops C Q (o :: rest) a :=
  q_step v hw (fun w hC => by unfold Oper.quietAt; rw [hv w hC]; exact ⟨rfl, rfl⟩) h

/-- A load. -/
theorem q_load (T : TypeId) (x : Operand) (p v : Value) (ho : o.op = .load T x) (hw : Region.wanted o (yielded ops a.tmps) = true) (hp : a.eval x = p)
    (hv : ∀ w, C w → (Instr.loadAt T p).run P w = .ok v w) (h : wpQuiet P ops C Q rest (a.put o.dst v)) : wpQuiet P ops C Q (o :: rest) a :=
  q_val v hw (fun w hC => by
    unfold execOp
    rw [ho]
    simp only [hp, Sem.run_bind, hv w hC, Result.andThen_ok, Sem.run_pure]) h

/-- A call. -/
theorem q_call (f : FuncId) (args : Array Value) (v : Value) (hw : Region.wanted o (yielded ops a.tmps) = true) (he : ∀ w, (execOp a.eval o).run P w = .ok (.enter f args) w)
    (hv : ∀ w, C w → Calls P f args w fun e w' => e = .returned v ∧ C w') (h : wpQuiet P ops C Q rest (a.put o.dst v)) : wpQuiet P ops C Q (o :: rest) a :=
  q_step v hw (fun w hC => by unfold Oper.quietAt; rw [he w]; exact ⟨rfl, hv w hC⟩) h

/-- A comparison. -/
theorem q_bin (op : BinOp) (T : TypeId) (x y : Operand) (t : TypeId) (u v r : Value) (ho : o.op = .binOp op T x y t) (hw : Region.wanted o (yielded ops a.tmps) = true) (hx : a.eval x = u) (hy : a.eval y = v)
    (hg : ∀ w, (eqGuard op T x y u v).run P w = .ok () w) (hb : ∀ w, (binOp op T u v).run P w = .ok r w) (h : wpQuiet P ops C Q rest (a.put o.dst r)) : wpQuiet P ops C Q (o :: rest) a :=
  q_val r hw (fun w hC => by
    unfold execOp
    rw [ho]
    simp only [hx, hy, Sem.run_bind, hg w, hb w, Result.andThen_ok, Sem.run_pure]) h
end
end Go.Proofs.YtkecehcnoihiiaaDoor
namespace Go.Proofs.YtkecehcnoihiiaaDoor
open Go.RowKit

section
variable {P : Program} {ops : Array Oper} {C : World → Prop} {Q : Exit → Act → World → Prop}
theorem wpList_quiet : ∀ (l : List Oper) (a : Act) (w : World), C w → wpQuiet P ops C (fun a' => ∀ w', C w' → Q .normal a' w') l a → wpList P ops Q l a w
  | [], _, w, hC, h => h w hC
  | o :: l, a, w, hC, h => by
    unfold wpQuiet at h
    unfold wpList
    split
    · rename_i hw
      rw [if_pos hw] at h
      exact .inl (Oper.wp_of_quiet hC (fun a' w' hC' hK => wpList_quiet l a' w' hC' hK) h)
    · rename_i hw
      rw [if_neg hw] at h
      exact wpList_quiet l _ w hC h
theorem q_region {id : Nat} {l : List Oper} {a : Act} {w : World} (C : World → Prop) (hC : C w) (h : wpQuiet P l.toArray C (fun a' => ∀ w', C w' → Q .normal a' w') l a) : (Code.region id l.toArray false).wp P Q a w :=
  wp_region_list (by simpa using wpList_quiet l a w hC (by simpa using h))
end
end Go.Proofs.YtkecehcnoihiiaaDoor
namespace Go.Proofs.YtkecehcnoihiiaaDoor
open Go

section
variable {P : Program} {ops : Array Oper} {md : Region.Mode} {C : World → Prop}

/-- Whatever order is picked among the first n, till all of them are done. -/
def anyHead (P : Program) (md : Region.Mode) (ops : Array Oper) (C : World → Prop) (n : Nat) (L : Array Bool → Act → Prop) : Nat → Array Bool → Act → Prop
  | 0, listed, a => L listed a
  | f + 1, listed, a => Region.ready md ops listed ≠ [] ∧ ∀ i ∈ Region.ready md ops listed, i < n ∧ qOp P ops C i (anyHead P md ops C n L f (listed.setIfInBounds i true)) a

theorem any_of_head {n g : Nat} {L : Array Bool → Act → Prop} {Q' : Exit → Act → World → Prop} (hL : ∀ listed a w, C w → L listed a → wpAny P md ops Q' g listed a w) :
    ∀ (f : Nat) (listed : Array Bool) (a : Act) (w : World), C w → anyHead P md ops C n L f listed a → wpAny P md ops Q' (f + g) listed a w
  | 0, listed, a, w, hw, h => by rw [Nat.zero_add]; exact hL _ _ _ hw h
  | f + 1, listed, a, w, hw, h => by
    rw [show f + 1 + g = (f + g) + 1 by omega]
    exact ⟨fun h0 => absurd h0 h.1, fun i hi => wpOp_of_qOp hw (fun a' w' hw' h' => any_of_head hL f _ a' w' hw' h') (h.2 i hi).2⟩

theorem head_first {n i : Nat} {oi : Oper} {v : Value} {L : Array Bool → Act → Prop} (hi : ops[i]? = some oi) (hsel : ∀ (j : Nat) (o : Oper) cs b, ops[j]? = some o → o.op ≠ .select cs b)
    (hs : Region.sinkB md ops n = true) (hc : Region.chainB md ops n = true) (hn : n < ops.size) (hin : i < n)
    (hdone : ∀ listed a, L listed a → ∀ j ∈ Region.ready md ops listed, n ≤ j) :
    ∀ (f : Nat) (listed : Array Bool) (a : Act), HeadInv md ops n listed →
      (∀ j oj, ops[j]? = some oj → j ≠ i → listed.getD j true = false → (∀ e ∈ oj.after, Region.binds md e = true → e.on ≠ i) → oi.apart ops oj = true) →
      i ∈ Region.ready md ops listed → YieldsIn P ops C oi v a →
      anyHead P md ops C n L f (listed.setIfInBounds i true) (a.put oi.dst v) → anyHead P md ops C n L (f + 1) listed a := by
  intro f
  induction f with
  | zero =>
    intro listed a inv _ hr hy H
    have hun := (mem_ready.1 hr).1
    refine ⟨fun h => (by rw [h] at hr; cases hr), fun j hj => ?_⟩
    have hjn : j < n := by
      rcases Nat.lt_or_ge j n with h | h
      · exact h
      · exact absurd hj (tail_waits hs hc hn inv _ i rfl hin hun j h)
    refine ⟨hjn, ?_⟩
    by_cases hji : j = i
    · subst hji; exact hy.qOp hi H
    · have := hdone _ _ H j (ready_mono hj hji)
      omega
  | succ f ih =>
    intro listed a inv hfree hr hy H
    have hun := (mem_ready.1 hr).1
    refine ⟨fun h => (by rw [h] at hr; cases hr), fun j hj => ?_⟩
    have hjn : j < n := by
      rcases Nat.lt_or_ge j n with h | h
      · exact h
      · exact absurd hj (tail_waits hs hc hn inv _ i rfl hin hun j h)
    refine ⟨hjn, ?_⟩
    by_cases hji : j = i
    · subst hji; exact hy.qOp hi H
    · have h1 := (H.2 j (ready_mono hj hji)).2
      obtain ⟨hjun, oj, hoj, hall⟩ := mem_ready.1 hj
      have hnot : ∀ e ∈ oj.after, Region.binds md e = true → e.on ≠ i := fun e he hb heq => by
        have h1 := hall e he hb
        rw [heq, getD_both hun] at h1
        cases h1
      have h2 := qOp_put hoj (hfree j oj hoj hji hjun hnot) (fun cs b => hsel i oi cs b hi) (fun cs b => hsel j oj cs b hoj) hy h1
      have hfree' : ∀ k ok, ops[k]? = some ok → k ≠ i → (listed.setIfInBounds j true).getD k true = false →
          (∀ e ∈ ok.after, Region.binds md e = true → e.on ≠ i) → oi.apart ops ok = true := fun k ok hk hki hun hno => by
        refine hfree k ok hk hki ?_ hno
        by_cases hjk : j = k
        · subst hjk; exact hjun
        · rw [getD_set_ne true hjk] at hun; exact hun
      refine qOp_mono (fun a' h3 => ih (listed.setIfInBounds j true) a' (inv.set hj hjn) hfree' (ready_mono hr (Ne.symm hji)) h3.1 ?_) h2
      rw [Array.setIfInBounds_comm _ _ hji]
      exact h3.2

theorem head_lex {n g : Nat} {Lq : Act → Prop} (hsel : Region.noSelect ops = true) (hs : Region.sinkB md ops n = true) (hc : Region.chainB md ops n = true) (hn : n < ops.size) :
    ∀ (l : List Oper) (k : Nat) (listed : Array Bool) (a : Act), (∀ j, j < l.length → l[j]? = ops[k + j]?) → k + l.length = n → HeadInv md ops n listed →
    Region.lexHead md ops g l.length k listed = true → wpQuiet P ops C Lq l a →
    anyHead P md ops C n (fun listed' a' => Region.seqB md ops g n listed' = true ∧ Lq a') l.length listed a
  | [], k, listed, a, _, hk, _, hB, h => by
    have : k = n := by simpa using hk
    subst this
    exact ⟨by simpa [Region.lexHead] using hB, h⟩
  | o :: l, k, listed, a, hl, hk, inv, hB, h => by
    have h0 : ops[k]? = some o := by simpa using (hl 0 (by simp)).symm
    simp only [List.length_cons, Region.lexHead, Bool.and_eq_true] at hB
    obtain ⟨⟨hr, hf⟩, hB'⟩ := hB
    have hkn : k < n := by simp only [List.length_cons] at hk; omega
    have hr' : k ∈ Region.ready md ops listed := by simpa using hr
    have hst : qOp P ops C k (wpQuiet P ops C Lq l) a := by unfold qOp; simp only [h0]; exact h
    obtain ⟨v, hy, hK⟩ := yieldsIn_of_qOp h0 hst
    exact head_first h0 (Region.noSelect_spec hsel) hs hc hn hkn (fun listed' a' hL => seqB_ready hL.1) l.length listed a inv (Region.free_spec h0 hf) hr' hy
      (head_lex hsel hs hc hn l (k + 1) _ _ (fun j hj => by have := hl (j + 1) (by simp; omega); simpa [Nat.add_assoc, Nat.add_comm 1 j] using this) (by simp only [List.length_cons] at hk; omega) (inv.set hr' hkn) hB' hK)

/-- THE LAW: a quiet head over a class of worlds, then a tail in the text's order, from any world of the class. -/
theorem region_quiet_tail {id : Nat} {Q : Exit → Act → World → Prop} {a : Act} {w : World} {l : List Oper} (n : Nat) (C : World → Prop) (hm : P.follows .mixedOrders = true) (hB : Region.lexTailB .any l.toArray n = true) (hC : C w.drew)
    (h : wpQuiet P l.toArray C (fun a' => ∀ w', C w' → wpList P l.toArray Q (l.drop n) a' w') (l.take n) a) : (Code.region id l.toArray true).wp P Q a w := by
  simp only [Region.lexTailB, Bool.and_eq_true, decide_eq_true_eq] at hB
  obtain ⟨⟨⟨⟨hsel, hn⟩, hs⟩, hc⟩, hlex⟩ := hB
  have hn' : n < l.length := by simpa using hn
  have htl : (l.take n).length = n := by simp; omega
  have hdl : (l.drop n).length = l.toArray.size - n := by simp
  have inv0 : HeadInv .any l.toArray n (Array.replicate l.toArray.size false) :=
    ⟨by simp, fun j oj _ hl => (by rw [getD_replicate_false] at hl; cases hl), fun t _ ht => getD_in (by simpa using ht) (getD_replicate_false _ _)⟩
  have H := head_lex (md := .any) (g := l.toArray.size - n) hsel hs hc hn (l.take n) 0 _ a (fun j hj => by
    have hj' : j < n := by rw [htl] at hj; exact hj
    simp [hj']) (by simpa using htl) inv0 (by rw [htl]; exact hlex) h
  refine wp_region_any hm ?_
  have := any_of_head (Q' := Q) (g := l.toArray.size - n) (fun listed a' w' hw' hL => by
    have := wpAny_of_seq (md := .any) (Q' := Q) (l.drop n) n listed a' w' (fun j => by simp [List.getElem?_drop]) (by rw [hdl]; exact hL.1) (hL.2 w' hw')
    rwa [hdl] at this) _ _ _ w.drew hC H
  rw [htl, show n + (l.toArray.size - n) = l.toArray.size by omega] at this
  exact this
end
end Go.Proofs.YtkecehcnoihiiaaDoor
namespace Go.Proofs.YtkecehcnoihiiaaDoor
open Go.RowKit

/-- x turned down by k. -/
def rdn (k : Nat) (x : Int) : Int := bits .or .u32 (x * 2 ^ (32 - k) % 4294967296) (x / 2 ^ k)
theorem or32 (a b : Int) : bits .or .u32 a b = bits .or .u32 b a := by
  show IntKind.u32.wrap ((BitVec.ofInt 32 a ||| BitVec.ofInt 32 b).toNat : Int) = IntKind.u32.wrap ((BitVec.ofInt 32 b ||| BitVec.ofInt 32 a).toNat : Int)
  rw [BitVec.or_comm]
theorem of32 (x : BitVec 32) : BitVec.ofInt 32 (IntKind.u32.wrap ((x.toNat : Nat) : Int)) = x := by
  have hx := x.isLt
  rw [IntKind.wrap_u32]
  apply BitVec.eq_of_toNat_eq
  rw [BitVec.toNat_ofInt]
  omega
theorem andn32 (a b : Int) : bits .and .u32 (bits .xor .u32 IntKind.u32.max a) b = bits .andNot .u32 b a := by
  have e : bits .andNot .u32 b a = IntKind.u32.wrap (((BitVec.ofInt 32 b &&& ~~~ BitVec.ofInt 32 a).toNat : Nat) : Int) := by
    unfold bits
    simp
    rfl
  rw [e]
  show IntKind.u32.wrap ((BitVec.ofInt 32 (IntKind.u32.wrap ((BitVec.ofInt 32 IntKind.u32.max ^^^ BitVec.ofInt 32 a).toNat : Int)) &&& BitVec.ofInt 32 b).toNat : Int) = _
  rw [of32, show BitVec.ofInt 32 IntKind.u32.max = BitVec.allOnes 32 from by decide +kernel, BitVec.allOnes_xor, BitVec.and_comm]
theorem and31 : ∀ k : Nat, k < 32 → 0 < k → bits .and .u64 (((18446744073709551616 - k : Nat) : Nat) : Int) 31 = ((32 - k : Nat) : Int) := by decide +kernel
set_option maxRecDepth 100000 in
theorem rotd (k : Nat) (hk : k < 32) (hk0 : 0 < k) (x : Int) (w : World) : Calls Tryd.prog 33 #[.int .u32 x, .int .i64 (-(k : Int))] w fun e w' => e = .returned (.int .u32 (rdn k x)) ∧ w' = w := by
  have ha := and31 k hk hk0
  unfold rdn
  obtain ⟨s, hs⟩ : ∃ s, 32 - k = s := ⟨_, rfl⟩
  obtain ⟨y, hy⟩ : ∃ y, 18446744073709551616 - k = y := ⟨_, rfl⟩
  rw [hs, hy] at ha
  rw [hs]
  have hw : IntKind.u64.wrap (-(k : Int)) = (y : Int) := by rw [IntKind.wrap_u64]; omega
  have ht : (32 : Int) - (s : Int) = (k : Int) := by omega
  have h0 : (0 : Int) ≤ s := by omega
  have h1 : (s : Int) < 32 := by omega
  have h2 : (0 : Int) ≤ k := by omega
  have h3 : (k : Int) < 32 := by omega
  clear hs hk hk0 hy
  go_enter Tryd.func33, Tryd.ntmps33
  go_wp2
  go_ret
  exact ⟨rfl, rfl⟩
set_option maxRecDepth 100000 in
-- WHAT down COMES TO.
theorem hdown (k : Nat) (hk : k < 32) (hk0 : 0 < k) (x : Int) (w : World) : Calls Tryd.prog 32 #[.int .u32 x, .int .i64 k] w fun e w' => e = .returned (.int .u32 (rdn k x)) ∧ w' = w := by
  have HR := Lib.hid (rotd k hk hk0 x)
  have hw : IntKind.i64.wrap (-(k : Int)) = -(k : Int) := by rw [IntKind.wrap_i64]; omega
  clear hk hk0
  go_enter Tryd.func32, Tryd.ntmps32
  go_wp2_with fail
  refine (HR.out _).mono ?_
  rintro e w' ⟨rfl, rfl⟩
  go_wp2_with fail
  go_ret
  exact ⟨rfl, rfl⟩
/-- Three turned down, laid over each other. -/
def trd (p q r : Nat) (x : Int) : Int := bits .xor .u32 (bits .xor .u32 (rdn p x) (rdn q x)) (rdn r x)
/-- Two turned down and one shifted. -/
def shf (p q r : Nat) (x : Int) : Int := bits .xor .u32 (bits .xor .u32 (rdn p x) (rdn q x)) (x / 2 ^ r)
set_option maxRecDepth 100000 in
-- WHAT turned COMES TO.
theorem hturned (p q r : Nat) (hp : p < 32 ∧ 0 < p) (hq : q < 32 ∧ 0 < q) (hr : r < 32 ∧ 0 < r) (x : Int) (w : World) : Calls Tryd.prog 26 #[.int .u32 x, .int .i64 p, .int .i64 q, .int .i64 r] w fun e w' => e = .returned (.int .u32 (trd p q r x)) ∧ w' = w := by
  have H1 := Lib.hid (hdown p hp.1 hp.2 x)
  have H2 := Lib.hid (hdown q hq.1 hq.2 x)
  have H3 := Lib.hid (hdown r hr.1 hr.2 x)
  clear hp hq hr
  unfold trd
  go_enter Tryd.func26, Tryd.ntmps26
  go_wp2_with fail
  refine (H1.out _).mono ?_
  rintro e w' ⟨rfl, rfl⟩
  go_wp2_with fail
  refine (H2.out _).mono ?_
  rintro e w' ⟨rfl, rfl⟩
  go_wp2_with fail
  refine (H3.out _).mono ?_
  rintro e w' ⟨rfl, rfl⟩
  go_wp2_with fail
  go_ret
  exact ⟨rfl, rfl⟩
theorem shr32 (z : Int) (s : Nat) (hs : s < 32) (w : World) : (binOp BinOp.shr 38 (.int .u32 z) (.int .i64 (s : Nat))).run Tryd.prog w = .ok (.int .u32 (z / 2 ^ s)) w := by
  have hs0 : (0 : Int) ≤ s := by omega
  have hs1 : (s : Int) < 32 := by omega
  go_simp
theorem q_v {P : Program} {ops : Array Oper} {C : World → Prop} {Q : Act → Prop} {a : Act} {o : Oper} {rest : List Oper} (s : Sem Value) (v : Value) (hw : Region.wanted o (yielded ops a.tmps) = true) (ho : execOp a.eval o = (do let x ← s; pure (.value x))) (hr : ∀ w, C w → s.run P w = .ok v w) (h : wpQuiet P ops C Q rest (a.put o.dst v)) : wpQuiet P ops C Q (o :: rest) a :=
  q_val v hw (fun w hC => by rw [ho]; simp only [Sem.run_bind, hr w hC, Result.andThen_ok, Sem.run_pure]) h
theorem drew_same {w wx : World} (h : wx = w ∨ wx = w.drew) : Below w.heap.size w wx := by
  rcases h with rfl | rfl
  · exact Below.refl _ _
  · exact Below.drew (Below.refl _ _)
set_option maxRecDepth 100000 in
-- WHAT shifted COMES TO.
theorem hshifted (p q r : Nat) (hp : p < 32 ∧ 0 < p) (hq : q < 32 ∧ 0 < q) (hr : r < 32) (x : Int) (w : World) : Calls Tryd.prog 31 #[.int .u32 x, .int .i64 p, .int .i64 q, .int .i64 r] w fun e w' => e = .returned (.int .u32 (shf p q r x)) ∧ w' = w.drew := by
  have H1 := Lib.hid (hdown p hp.1 hp.2 x)
  have H2 := Lib.hid (hdown q hq.1 hq.2 x)
  have H3 := Lib.hid (shr32 x r hr)
  clear hp hq hr
  unfold shf
  go_enter Tryd.func31, Tryd.ntmps31
  go_wp2_with fail
  refine wp_region_quiet (C := fun wx => wx = w.drew) (by kernel_rfl) (by kernel_rfl) rfl ?_
  with_reducible refine q_val (.int .u32 x) (by kernel_rfl) (fun _ _ => by kernel_rfl) ?_
  with_reducible refine q_val (.int .i64 p) (by kernel_rfl) (fun _ _ => by kernel_rfl) ?_
  with_reducible refine q_call 32 #[.int .u32 x, .int .i64 p] (.int .u32 (rdn p x)) (by kernel_rfl) (fun _ => by kernel_rfl) (fun wx h => (H1.out wx).mono fun e w' hh => ⟨hh.1, by rw [hh.2]; exact h⟩) ?_
  with_reducible refine q_val (.int .u32 x) (by kernel_rfl) (fun _ _ => by kernel_rfl) ?_
  with_reducible refine q_val (.int .i64 q) (by kernel_rfl) (fun _ _ => by kernel_rfl) ?_
  with_reducible refine q_call 32 #[.int .u32 x, .int .i64 q] (.int .u32 (rdn q x)) (by kernel_rfl) (fun _ => by kernel_rfl) (fun wx h => (H2.out wx).mono fun e w' hh => ⟨hh.1, by rw [hh.2]; exact h⟩) ?_
  with_reducible refine q_val (.int .u32 (bits .xor .u32 (rdn p x) (rdn q x))) (by kernel_rfl) (fun _ _ => by kernel_rfl) ?_
  with_reducible refine q_val (.int .u32 x) (by kernel_rfl) (fun _ _ => by kernel_rfl) ?_
  with_reducible refine q_val (.int .i64 r) (by kernel_rfl) (fun _ _ => by kernel_rfl) ?_
  with_reducible refine q_v (binOp BinOp.shr 38 (.int .u32 x) (.int .i64 (r : Nat))) (.int .u32 (x / 2 ^ r)) (by kernel_rfl) (by kernel_rfl) (fun wz _ => H3.out wz) ?_
  with_reducible refine q_val (.int .u32 (bits .xor .u32 (bits .xor .u32 (rdn p x) (rdn q x)) (x / 2 ^ r))) (by kernel_rfl) (fun _ _ => by kernel_rfl) ?_
  with_reducible refine q_val (.int .u32 (bits .xor .u32 (bits .xor .u32 (rdn p x) (rdn q x)) (x / 2 ^ r))) (by kernel_rfl) (fun _ _ => by kernel_rfl) ?_
  with_reducible refine wpQuiet_nil ?_
  intro w1 hC
  simp only [Act.put, List.setIfInBounds_toArray, List.set_cons_succ, List.set_cons_zero]
  go_wp2_with fail
  go_ret
  exact ⟨rfl, hC⟩
set_option maxRecDepth 100000 in
-- WHAT THE REFERENCE'S down COMES TO.
theorem hrdown (k : Nat) (hk : k < 32) (hk0 : 0 < k) (x : Int) (w : World) : Calls Tryd.prog 24 #[.int .u32 x, .int .i64 k] w fun e w' => e = .returned (.int .u32 (rdn k x)) ∧ w' = w := by
  unfold rdn
  rw [or32]
  obtain ⟨s, hs⟩ : ∃ s, 32 - k = s := ⟨_, rfl⟩
  rw [hs]
  have h0 : (0 : Int) ≤ k := by omega
  have h1 : (k : Int) < 32 := by omega
  have e1 : IntKind.u64.wrap (k : Int) = (k : Int) := by rw [IntKind.wrap_u64]; omega
  have e2 : (32 : Int) - (k : Int) = (s : Int) := by omega
  have e3 : IntKind.i64.wrap (s : Int) = (s : Int) := by rw [IntKind.wrap_i64]; omega
  have e4 : IntKind.u64.wrap (s : Int) = (s : Int) := by rw [IntKind.wrap_u64]; omega
  have s0 : (0 : Int) ≤ s := by omega
  have s1 : (s : Int) < 32 := by omega
  clear hs hk hk0
  go_enter Tryd.func24, Tryd.ntmps24
  go_wp2
  go_ret
  exact ⟨rfl, rfl⟩
end Go.Proofs.YtkecehcnoihiiaaDoor
namespace Go.Proofs.YtkecehcnoihiiaaDoor
open Go.RowKit

/-- The number of four bytes, the highest first. -/
def nb (a b c d : Nat) : Int := bits .or .u32 (bits .or .u32 (bits .or .u32 ((a * 16777216 : Nat) : Int) ((b * 65536 : Nat) : Int)) ((c * 256 : Nat) : Int)) ((d : Nat) : Int)
/-- The numbers of a block. -/
def sw (f : Nat → Nat) (i : Nat) : Int :=
  if i < 16 then nb (f (4 * i)) (f (4 * i + 1)) (f (4 * i + 2)) (f (4 * i + 3))
  else (shf 17 19 10 (sw f (i - 2)) + sw f (i - 7) + shf 7 18 3 (sw f (i - 15)) + sw f (i - 16)) % 4294967296
termination_by i
decreasing_by all_goals omega
theorem sw_lo (f : Nat → Nat) {i : Nat} (h : i < 16) : sw f i = nb (f (4 * i)) (f (4 * i + 1)) (f (4 * i + 2)) (f (4 * i + 3)) := by rw [sw, if_pos h]
theorem sw_hi (f : Nat → Nat) {i : Nat} (h : 16 ≤ i) : sw f i = (shf 17 19 10 (sw f (i - 2)) + sw f (i - 7) + shf 7 18 3 (sw f (i - 15)) + sw f (i - 16)) % 4294967296 := by rw [sw, if_neg (by omega)]
theorem drew_cell (w : World) (p : Addr) : w.drew.cell? p = w.cell? p := World.cell?_of_block (w := w) rfl
theorem wrap3 (a b c d : Int) : IntKind.u32.wrap (IntKind.u32.wrap (IntKind.u32.wrap (a + b) + c) + d) = (a + b + c + d) % 4294967296 := by
  simp only [IntKind.wrap_u32]
  omega
theorem load_u32 (g j : Nat) (y : Int) (w : World) (h : w.cell? ⟨g, j, none⟩ = some (.int .u32 y)) : (Instr.loadAt 38 (.pointer (some ⟨g, j, none⟩))).run Tryd.prog w = .ok (.int .u32 y) w := by
  go_simp
theorem load_u8 (g j : Nat) (y : Int) (w : World) (h : w.cell? ⟨g, j, none⟩ = some (.int .u8 y)) : (Instr.loadAt 5 (.pointer (some ⟨g, j, none⟩))).run Tryd.prog w = .ok (.int .u8 y) w := by
  go_simp
theorem cv8_32 (x : Nat) (hx : x < 256) (w : World) : (convert 5 38 (.int .u8 (x : Nat))).run Tryd.prog w = .ok (.int .u32 (x : Nat)) w := by
  have e2 : IntKind.u32.wrap (x : Int) = x := by rw [IntKind.wrap_u32]; omega
  go_simp
theorem shl24 (x : Nat) (hx : x < 256) (w : World) : (binOp BinOp.shl 38 (.int .u32 (x : Nat)) (.int .u64 24)).run Tryd.prog w = .ok (.int .u32 (x * 16777216 : Nat)) w := by
  have e1 : (x : Int) * 16777216 % 4294967296 = ((x * 16777216 : Nat) : Int) := by omega
  have e2 : IntKind.u32.wrap ((x : Int) * 16777216) = ((x * 16777216 : Nat) : Int) := by rw [IntKind.wrap_u32]; omega
  obtain ⟨y, hy⟩ : ∃ y, x * 16777216 = y := ⟨_, rfl⟩
  rw [hy] at e1 e2 ⊢
  go_simp
theorem shl16 (x : Nat) (hx : x < 256) (w : World) : (binOp BinOp.shl 38 (.int .u32 (x : Nat)) (.int .u64 16)).run Tryd.prog w = .ok (.int .u32 (x * 65536 : Nat)) w := by
  have e1 : (x : Int) * 65536 % 4294967296 = ((x * 65536 : Nat) : Int) := by omega
  have e2 : IntKind.u32.wrap ((x : Int) * 65536) = ((x * 65536 : Nat) : Int) := by rw [IntKind.wrap_u32]; omega
  obtain ⟨y, hy⟩ : ∃ y, x * 65536 = y := ⟨_, rfl⟩
  rw [hy] at e1 e2 ⊢
  go_simp
theorem shl08 (x : Nat) (hx : x < 256) (w : World) : (binOp BinOp.shl 38 (.int .u32 (x : Nat)) (.int .u64 8)).run Tryd.prog w = .ok (.int .u32 (x * 256 : Nat)) w := by
  have e1 : (x : Int) * 256 % 4294967296 = ((x * 256 : Nat) : Int) := by omega
  have e2 : IntKind.u32.wrap ((x : Int) * 256) = ((x * 256 : Nat) : Int) := by rw [IntKind.wrap_u32]; omega
  obtain ⟨y, hy⟩ : ∃ y, x * 256 = y := ⟨_, rfl⟩
  rw [hy] at e1 e2 ⊢
  go_simp
set_option maxRecDepth 100000 in
set_option maxHeartbeats 1000000 in
-- WHAT number COMES TO.
theorem hnum {b o cap a0 a1 a2 a3 : Nat} (h0 : a0 < 256) (h1 : a1 < 256) (h2 : a2 < 256) (h3 : a3 < 256) (w : World) (c0 : w.cell? ⟨b, o, none⟩ = some (.int .u8 (a0 : Nat))) (c1 : w.cell? ⟨b, o + 1, none⟩ = some (.int .u8 (a1 : Nat))) (c2 : w.cell? ⟨b, o + 2, none⟩ = some (.int .u8 (a2 : Nat))) (c3 : w.cell? ⟨b, o + 3, none⟩ = some (.int .u8 (a3 : Nat))) :
    Calls Tryd.prog 30 #[.slice (some ⟨b, o, none⟩) 4 cap] w fun e w' => e = .returned (.int .u32 (nb a0 a1 a2 a3)) ∧ w' = w.drew := by
  have HC := Lib.hid (And.intro c0 (And.intro c1 (And.intro c2 c3)))
  have H := Lib.hid (And.intro h0 (And.intro h1 (And.intro h2 h3)))
  clear c0 c1 c2 c3 h0 h1 h2 h3
  unfold nb
  go_enter Tryd.func30, Tryd.ntmps30
  go_wp2_with fail
  refine wp_region_quiet (C := fun wx => wx = w.drew) (by kernel_rfl) (by kernel_rfl) rfl ?_
  with_reducible refine q_val (.slice (some ⟨b, o, none⟩) 4 cap) (by kernel_rfl) (fun _ _ => by kernel_rfl) ?_
  with_reducible refine q_val (.pointer (some ⟨b, o, none⟩)) (by kernel_rfl) (fun _ _ => by kernel_rfl) ?_
  with_reducible refine q_load 5 (.tmp 4) (.pointer (some ⟨b, o, none⟩)) (.int .u8 (a0 : Nat)) rfl (by kernel_rfl) (by kernel_rfl) (fun _ h => by rw [h]; exact load_u8 _ _ _ _ ((drew_cell w _).trans HC.out.1)) ?_
  with_reducible refine q_v (convert 5 38 (.int .u8 (a0 : Nat))) (.int .u32 (a0 : Nat)) (by kernel_rfl) (by kernel_rfl) (fun wz _ => cv8_32 a0 H.out.1 wz) ?_
  with_reducible refine q_v (binOp BinOp.shl 38 (.int .u32 (a0 : Nat)) (.int .u64 24)) (.int .u32 (a0 * 16777216 : Nat)) (by kernel_rfl) (by kernel_rfl) (fun wz _ => shl24 a0 H.out.1 wz) ?_
  with_reducible refine q_val (.slice (some ⟨b, o, none⟩) 4 cap) (by kernel_rfl) (fun _ _ => by kernel_rfl) ?_
  with_reducible refine q_val (.pointer (some ⟨b, o + 1, none⟩)) (by kernel_rfl) (fun _ _ => by kernel_rfl) ?_
  with_reducible refine q_load 5 (.tmp 9) (.pointer (some ⟨b, o + 1, none⟩)) (.int .u8 (a1 : Nat)) rfl (by kernel_rfl) (by kernel_rfl) (fun _ h => by rw [h]; exact load_u8 _ _ _ _ ((drew_cell w _).trans HC.out.2.1)) ?_
  with_reducible refine q_v (convert 5 38 (.int .u8 (a1 : Nat))) (.int .u32 (a1 : Nat)) (by kernel_rfl) (by kernel_rfl) (fun wz _ => cv8_32 a1 H.out.2.1 wz) ?_
  with_reducible refine q_v (binOp BinOp.shl 38 (.int .u32 (a1 : Nat)) (.int .u64 16)) (.int .u32 (a1 * 65536 : Nat)) (by kernel_rfl) (by kernel_rfl) (fun wz _ => shl16 a1 H.out.2.1 wz) ?_
  with_reducible refine q_val (.int .u32 (bits .or .u32 ((a0 * 16777216 : Nat) : Int) ((a1 * 65536 : Nat) : Int))) (by kernel_rfl) (fun _ _ => by kernel_rfl) ?_
  with_reducible refine q_val (.slice (some ⟨b, o, none⟩) 4 cap) (by kernel_rfl) (fun _ _ => by kernel_rfl) ?_
  with_reducible refine q_val (.pointer (some ⟨b, o + 2, none⟩)) (by kernel_rfl) (fun _ _ => by kernel_rfl) ?_
  with_reducible refine q_load 5 (.tmp 15) (.pointer (some ⟨b, o + 2, none⟩)) (.int .u8 (a2 : Nat)) rfl (by kernel_rfl) (by kernel_rfl) (fun _ h => by rw [h]; exact load_u8 _ _ _ _ ((drew_cell w _).trans HC.out.2.2.1)) ?_
  with_reducible refine q_v (convert 5 38 (.int .u8 (a2 : Nat))) (.int .u32 (a2 : Nat)) (by kernel_rfl) (by kernel_rfl) (fun wz _ => cv8_32 a2 H.out.2.2.1 wz) ?_
  with_reducible refine q_v (binOp BinOp.shl 38 (.int .u32 (a2 : Nat)) (.int .u64 8)) (.int .u32 (a2 * 256 : Nat)) (by kernel_rfl) (by kernel_rfl) (fun wz _ => shl08 a2 H.out.2.2.1 wz) ?_
  with_reducible refine q_val (.int .u32 (bits .or .u32 (bits .or .u32 ((a0 * 16777216 : Nat) : Int) ((a1 * 65536 : Nat) : Int)) ((a2 * 256 : Nat) : Int))) (by kernel_rfl) (fun _ _ => by kernel_rfl) ?_
  with_reducible refine q_val (.slice (some ⟨b, o, none⟩) 4 cap) (by kernel_rfl) (fun _ _ => by kernel_rfl) ?_
  with_reducible refine q_val (.pointer (some ⟨b, o + 3, none⟩)) (by kernel_rfl) (fun _ _ => by kernel_rfl) ?_
  with_reducible refine q_load 5 (.tmp 21) (.pointer (some ⟨b, o + 3, none⟩)) (.int .u8 (a3 : Nat)) rfl (by kernel_rfl) (by kernel_rfl) (fun _ h => by rw [h]; exact load_u8 _ _ _ _ ((drew_cell w _).trans HC.out.2.2.2)) ?_
  with_reducible refine q_v (convert 5 38 (.int .u8 (a3 : Nat))) (.int .u32 (a3 : Nat)) (by kernel_rfl) (by kernel_rfl) (fun wz _ => cv8_32 a3 H.out.2.2.2 wz) ?_
  with_reducible refine q_val (.int .u32 (bits .or .u32 (bits .or .u32 (bits .or .u32 ((a0 * 16777216 : Nat) : Int) ((a1 * 65536 : Nat) : Int)) ((a2 * 256 : Nat) : Int)) ((a3 : Nat) : Int))) (by kernel_rfl) (fun _ _ => by kernel_rfl) ?_
  with_reducible refine q_val (.int .u32 (bits .or .u32 (bits .or .u32 (bits .or .u32 ((a0 * 16777216 : Nat) : Int) ((a1 * 65536 : Nat) : Int)) ((a2 * 256 : Nat) : Int)) ((a3 : Nat) : Int))) (by kernel_rfl) (fun _ _ => by kernel_rfl) ?_
  with_reducible refine wpQuiet_nil ?_
  intro w1 hC
  simp only [Act.put, List.setIfInBounds_toArray, List.set_cons_succ, List.set_cons_zero]
  go_wp2_with fail
  go_ret
  exact ⟨rfl, hC⟩
/-- The numbers while they are made. -/
def swD (f : Nat → Nat) (k j : Nat) : Int := if j < k then sw f j else 0
theorem swD_next (f : Nat → Nat) (k : Nat) : updI (swD f k) k (sw f k) = swD f (k + 1) := by
  funext j
  unfold updI swD
  by_cases h : j = k
  · subst h; rw [if_pos rfl, if_pos (by omega)]
  · rw [if_neg h]
    by_cases h2 : j < k
    · rw [if_pos h2, if_pos (by omega)]
    · rw [if_neg h2, if_neg (by omega)]
theorem swD_64 (f : Nat → Nat) : ar .u32 64 (swD f 64) = ar .u32 64 (sw f) := ar_congr fun j hj => by unfold swD; rw [if_pos hj]
theorem swD_at (f : Nat → Nat) {k j : Nat} (h : j < k) : swD f k j = sw f j := by unfold swD; rw [if_pos h]
theorem z64 : ar .u32 64 (fun _ => 0) = #[.int .u32 0, .int .u32 0, .int .u32 0, .int .u32 0, .int .u32 0, .int .u32 0, .int .u32 0, .int .u32 0, .int .u32 0, .int .u32 0, .int .u32 0, .int .u32 0, .int .u32 0, .int .u32 0, .int .u32 0, .int .u32 0, .int .u32 0, .int .u32 0, .int .u32 0, .int .u32 0, .int .u32 0, .int .u32 0, .int .u32 0, .int .u32 0, .int .u32 0, .int .u32 0, .int .u32 0, .int .u32 0, .int .u32 0, .int .u32 0, .int .u32 0, .int .u32 0, .int .u32 0, .int .u32 0, .int .u32 0, .int .u32 0, .int .u32 0, .int .u32 0, .int .u32 0, .int .u32 0, .int .u32 0, .int .u32 0, .int .u32 0, .int .u32 0, .int .u32 0, .int .u32 0, .int .u32 0, .int .u32 0, .int .u32 0, .int .u32 0, .int .u32 0, .int .u32 0, .int .u32 0, .int .u32 0, .int .u32 0, .int .u32 0, .int .u32 0, .int .u32 0, .int .u32 0, .int .u32 0, .int .u32 0, .int .u32 0, .int .u32 0, .int .u32 0] := by kernel_rfl
theorem swD_0 (f : Nat → Nat) : ar .u32 64 (swD f 0) = #[.int .u32 0, .int .u32 0, .int .u32 0, .int .u32 0, .int .u32 0, .int .u32 0, .int .u32 0, .int .u32 0, .int .u32 0, .int .u32 0, .int .u32 0, .int .u32 0, .int .u32 0, .int .u32 0, .int .u32 0, .int .u32 0, .int .u32 0, .int .u32 0, .int .u32 0, .int .u32 0, .int .u32 0, .int .u32 0, .int .u32 0, .int .u32 0, .int .u32 0, .int .u32 0, .int .u32 0, .int .u32 0, .int .u32 0, .int .u32 0, .int .u32 0, .int .u32 0, .int .u32 0, .int .u32 0, .int .u32 0, .int .u32 0, .int .u32 0, .int .u32 0, .int .u32 0, .int .u32 0, .int .u32 0, .int .u32 0, .int .u32 0, .int .u32 0, .int .u32 0, .int .u32 0, .int .u32 0, .int .u32 0, .int .u32 0, .int .u32 0, .int .u32 0, .int .u32 0, .int .u32 0, .int .u32 0, .int .u32 0, .int .u32 0, .int .u32 0, .int .u32 0, .int .u32 0, .int .u32 0, .int .u32 0, .int .u32 0, .int .u32 0, .int .u32 0] := by
  rw [← z64]
  exact ar_congr fun j _ => by unfold swD; rw [if_neg (by omega)]
theorem sl64 (V o : Nat) (h : o + 4 ≤ 64) (w : World) : (Instr.sliceAt 46 (.pointer (some ⟨V, 0, none⟩)) (some (.int .i64 (o : Nat))) (some (.int .i64 ((o : Int) + 4))) none).run Tryd.prog w = .ok (.slice (some ⟨V, o, none⟩) 4 (64 - o)) w := by
  have hlen : Tryd.prog.arrayLen 46 = 64 := by kernel_rfl
  have hsz : (sizeOf (Tryd.prog.elem 46)).run Tryd.prog w = .ok 1 w := by kernel_rfl
  rw [run_sliceAt_array_lh w 46 ⟨V, 0, none⟩ (by kernel_rfl) .i64 .i64 _ _ (by omega) (by omega) (by rw [hlen]; omega), hsz, hlen]
  simp only [Result.andThen, slicedAt, Addr.add]
  rw [if_neg (by omega), show ((o : Int) + 4).toNat = o + 4 by omega, Int.toNat_natCast, show o + 4 - o = 4 by omega]
  simp
  omega
theorem ixW (B x : Nat) (h : x < 64) (w : World) : (Instr.indexAt 61 (.pointer (some ⟨B, 0, none⟩)) (.int .i64 (x : Nat))).run Tryd.prog w = .ok (.pointer (some ⟨B, x, none⟩)) w := by
  have h0 : (0 : Int) ≤ x := by omega
  have h1 : (x : Int) < 64 := by omega
  go_simp
theorem info64w : (Tryd.prog.info? 61).map (·.size) = some 64 := by kernel_rfl
/-- The worlds of spread: the block at S, the answer's place at S + 1, the numbers at S + 2. -/
structure CSp (w : World) (f : Nat → Nat) (v : Nat → Int) (wx : World) : Prop where
  old : Below w.heap.size w wx
  r0 : wx.heap[w.heap.size]? = some (.cells (ar .u8 64 fun j => (f j : Nat)) 46 (0, 0))
  r1 : wx.heap[w.heap.size + 1]? = some (.cells #[.int .u32 0, .int .u32 0, .int .u32 0, .int .u32 0, .int .u32 0, .int .u32 0, .int .u32 0, .int .u32 0, .int .u32 0, .int .u32 0, .int .u32 0, .int .u32 0, .int .u32 0, .int .u32 0, .int .u32 0, .int .u32 0, .int .u32 0, .int .u32 0, .int .u32 0, .int .u32 0, .int .u32 0, .int .u32 0, .int .u32 0, .int .u32 0, .int .u32 0, .int .u32 0, .int .u32 0, .int .u32 0, .int .u32 0, .int .u32 0, .int .u32 0, .int .u32 0, .int .u32 0, .int .u32 0, .int .u32 0, .int .u32 0, .int .u32 0, .int .u32 0, .int .u32 0, .int .u32 0, .int .u32 0, .int .u32 0, .int .u32 0, .int .u32 0, .int .u32 0, .int .u32 0, .int .u32 0, .int .u32 0, .int .u32 0, .int .u32 0, .int .u32 0, .int .u32 0, .int .u32 0, .int .u32 0, .int .u32 0, .int .u32 0, .int .u32 0, .int .u32 0, .int .u32 0, .int .u32 0, .int .u32 0, .int .u32 0, .int .u32 0, .int .u32 0] 61 (0, 0))
  r2 : wx.heap[w.heap.size + 1 + 1]? = some (.cells (ar .u32 64 v) 61 (0, 0))
section
variable {w wx : World} {f : Nat → Nat} {v : Nat → Int}
theorem CSp.drew (c : CSp w f v wx) : CSp w f v wx.drew := ⟨c.old.drew, c.r0, c.r1, c.r2⟩
theorem CSp.b (c : CSp w f v wx) (j : Nat) (hj : j < 64) : wx.cell? ⟨w.heap.size, j, none⟩ = some (.int .u8 (f j : Nat)) := (cell_of_row wx _ j _ _ _ c.r0).trans (ar_at _ _ _ _ hj)
theorem CSp.ld (c : CSp w f v wx) (j : Nat) (hj : j < 64) (z : Int) (hz : v j = z) : (Instr.loadAt 38 (.pointer (some ⟨w.heap.size + 1 + 1, j, none⟩))).run Tryd.prog wx = .ok (.int .u32 z) wx :=
  load_u32 _ _ _ _ (by rw [← hz]; exact (cell_of_row wx _ j _ _ _ c.r2).trans (ar_at _ _ _ _ hj))
theorem CSp.set (c : CSp w f v wx) (j : Nat) (hj : j < 64) (z : Int) : CSp w f (updI v j z) (wx.setCell ⟨w.heap.size + 1 + 1, j, none⟩ (.int .u32 z)) :=
  ⟨c.old.setCell (by show w.heap.size ≤ w.heap.size + 1 + 1; omega) _, (heap_setCell_other _ _ _ _ (by show w.heap.size ≠ w.heap.size + 1 + 1; omega)).trans c.r0, (heap_setCell_other _ _ _ _ (by show w.heap.size + 1 ≠ w.heap.size + 1 + 1; omega)).trans c.r1, (heap_setCell_same _ _ _ _ _ _ c.r2).trans (by rw [ar_set _ _ _ _ _ hj])⟩
end
theorem subi (k c : Nat) (hk : k < 1000) (hc : c ≤ k) (w : World) : (binOp BinOp.sub 3 (.int .i64 (k : Nat)) (.int .i64 (c : Nat))).run Tryd.prog w = .ok (.int .i64 (k - c : Nat)) w := by
  obtain ⟨q, hq⟩ : ∃ q, k - c = q := ⟨_, rfl⟩
  rw [hq]
  have e0 : (k : Int) - (c : Int) = (q : Int) := by omega
  have e2 : IntKind.i64.wrap (q : Int) = q := by rw [IntKind.wrap_i64]; omega
  go_simp
set_option maxRecDepth 100000 in
set_option maxHeartbeats 4000000 in
-- WHAT spread COMES TO.
theorem hspread (f : Nat → Nat) (hf : ∀ j, f j < 256) (w : World) : Calls Tryd.prog 25 #[.agg (ar .u8 64 fun j => (f j : Nat))] w fun e w' => e = .returned (.agg (ar .u32 64 (sw f))) ∧ Below w.heap.size w w' := by
  have HF := Lib.hid hf; clear hf
  have HI : ∀ v, Hid ((Tryd.prog.info? 61).map (·.size) = some (ar .u32 64 v).size) := fun v => Lib.hid (by rw [ar_size]; exact info64w)
  have hh := heap3 w (.cells (ar .u8 64 fun j => (f j : Nat)) 46) (.cells #[.int .u32 0, .int .u32 0, .int .u32 0, .int .u32 0, .int .u32 0, .int .u32 0, .int .u32 0, .int .u32 0, .int .u32 0, .int .u32 0, .int .u32 0, .int .u32 0, .int .u32 0, .int .u32 0, .int .u32 0, .int .u32 0, .int .u32 0, .int .u32 0, .int .u32 0, .int .u32 0, .int .u32 0, .int .u32 0, .int .u32 0, .int .u32 0, .int .u32 0, .int .u32 0, .int .u32 0, .int .u32 0, .int .u32 0, .int .u32 0, .int .u32 0, .int .u32 0, .int .u32 0, .int .u32 0, .int .u32 0, .int .u32 0, .int .u32 0, .int .u32 0, .int .u32 0, .int .u32 0, .int .u32 0, .int .u32 0, .int .u32 0, .int .u32 0, .int .u32 0, .int .u32 0, .int .u32 0, .int .u32 0, .int .u32 0, .int .u32 0, .int .u32 0, .int .u32 0, .int .u32 0, .int .u32 0, .int .u32 0, .int .u32 0, .int .u32 0, .int .u32 0, .int .u32 0, .int .u32 0, .int .u32 0, .int .u32 0, .int .u32 0, .int .u32 0] 61) (.cells #[.int .u32 0, .int .u32 0, .int .u32 0, .int .u32 0, .int .u32 0, .int .u32 0, .int .u32 0, .int .u32 0, .int .u32 0, .int .u32 0, .int .u32 0, .int .u32 0, .int .u32 0, .int .u32 0, .int .u32 0, .int .u32 0, .int .u32 0, .int .u32 0, .int .u32 0, .int .u32 0, .int .u32 0, .int .u32 0, .int .u32 0, .int .u32 0, .int .u32 0, .int .u32 0, .int .u32 0, .int .u32 0, .int .u32 0, .int .u32 0, .int .u32 0, .int .u32 0, .int .u32 0, .int .u32 0, .int .u32 0, .int .u32 0, .int .u32 0, .int .u32 0, .int .u32 0, .int .u32 0, .int .u32 0, .int .u32 0, .int .u32 0, .int .u32 0, .int .u32 0, .int .u32 0, .int .u32 0, .int .u32 0, .int .u32 0, .int .u32 0, .int .u32 0, .int .u32 0, .int .u32 0, .int .u32 0, .int .u32 0, .int .u32 0, .int .u32 0, .int .u32 0, .int .u32 0, .int .u32 0, .int .u32 0, .int .u32 0, .int .u32 0, .int .u32 0] 61)
  have H0 := Lib.hid (show CSp w f (swD f 0) (((w.alloc (.cells (ar .u8 64 fun j => (f j : Nat)) 46)).alloc (.cells #[.int .u32 0, .int .u32 0, .int .u32 0, .int .u32 0, .int .u32 0, .int .u32 0, .int .u32 0, .int .u32 0, .int .u32 0, .int .u32 0, .int .u32 0, .int .u32 0, .int .u32 0, .int .u32 0, .int .u32 0, .int .u32 0, .int .u32 0, .int .u32 0, .int .u32 0, .int .u32 0, .int .u32 0, .int .u32 0, .int .u32 0, .int .u32 0, .int .u32 0, .int .u32 0, .int .u32 0, .int .u32 0, .int .u32 0, .int .u32 0, .int .u32 0, .int .u32 0, .int .u32 0, .int .u32 0, .int .u32 0, .int .u32 0, .int .u32 0, .int .u32 0, .int .u32 0, .int .u32 0, .int .u32 0, .int .u32 0, .int .u32 0, .int .u32 0, .int .u32 0, .int .u32 0, .int .u32 0, .int .u32 0, .int .u32 0, .int .u32 0, .int .u32 0, .int .u32 0, .int .u32 0, .int .u32 0, .int .u32 0, .int .u32 0, .int .u32 0, .int .u32 0, .int .u32 0, .int .u32 0, .int .u32 0, .int .u32 0, .int .u32 0, .int .u32 0] 61)).alloc (.cells #[.int .u32 0, .int .u32 0, .int .u32 0, .int .u32 0, .int .u32 0, .int .u32 0, .int .u32 0, .int .u32 0, .int .u32 0, .int .u32 0, .int .u32 0, .int .u32 0, .int .u32 0, .int .u32 0, .int .u32 0, .int .u32 0, .int .u32 0, .int .u32 0, .int .u32 0, .int .u32 0, .int .u32 0, .int .u32 0, .int .u32 0, .int .u32 0, .int .u32 0, .int .u32 0, .int .u32 0, .int .u32 0, .int .u32 0, .int .u32 0, .int .u32 0, .int .u32 0, .int .u32 0, .int .u32 0, .int .u32 0, .int .u32 0, .int .u32 0, .int .u32 0, .int .u32 0, .int .u32 0, .int .u32 0, .int .u32 0, .int .u32 0, .int .u32 0, .int .u32 0, .int .u32 0, .int .u32 0, .int .u32 0, .int .u32 0, .int .u32 0, .int .u32 0, .int .u32 0, .int .u32 0, .int .u32 0, .int .u32 0, .int .u32 0, .int .u32 0, .int .u32 0, .int .u32 0, .int .u32 0, .int .u32 0, .int .u32 0, .int .u32 0, .int .u32 0] 61)) from ⟨by go_grown, hh.1, hh.2.1, by rw [swD_0]; exact hh.2.2⟩)
  clear hh
  go_enter Tryd.func25, Tryd.ntmps25
  go_wp2_with fail
  go_loopw [6] (fun i wr => ∃ k : Nat, k ≤ 16 ∧ i = .int .i64 k ∧ Hid (CSp w f (swD f k) wr)) (fun i _ => 16 - (intOf i).toNat)
  case atStart => exact ⟨0, by omega, rfl, H0⟩
  case round =>
    obtain ⟨k, hk, rfl, H⟩ := hrel
    clear H0
    have hk0 : (0 : Int) ≤ k := by omega
    by_cases hlt : k < 16
    · have hlt' : (k : Int) < 16 := by omega
      have HK := Lib.hid hlt
      obtain ⟨o, ho⟩ : ∃ o, 4 * k = o := ⟨_, rfl⟩
      have ho1 : 4 * (k : Int) = (o : Int) := by omega
      have ho0 : (0 : Int) ≤ o := by omega
      have ho64 : o + 4 ≤ 64 := by omega
      have ho2 : (o : Int) + 4 ≤ 64 := by omega
      have hsl := sl64 w.heap.size o ho64
      have HN := Lib.hid (hnum (cap := 64 - o) (HF.out o) (HF.out (o + 1)) (HF.out (o + 2)) (HF.out (o + 3)) wr (H.out.b o (by omega)) (H.out.b (o + 1) (by omega)) (H.out.b (o + 2) (by omega)) (H.out.b (o + 3) (by omega)))
      have hs := sw_lo f hlt
      rw [ho] at hs
      rw [← hs] at HN
      have HX := Lib.hid (swD_next f k)
      obtain ⟨z, hz⟩ : ∃ z, sw f k = z := ⟨_, rfl⟩
      rw [hz] at HN HX
      have HO := Lib.hid ho
      clear hs hz ho
      go_wp2_with fail
      refine HN.out.mono ?_
      rintro e u ⟨rfl, rfl⟩
      have H1 := Lib.hid H.out.drew
      clear H HN hsl
      have co := (cell_of_row wr.drew _ k _ _ _ H1.out.r2).trans (ar_at _ _ _ _ (show k < 64 by omega))
      have fo := frozen_of_row wr.drew _ k _ _ H1.out.r2
      have hst := H1.out.set k (by omega) z
      rw [HX.out] at hst
      have H2 := Lib.hid hst
      have hix := ixW (w.heap.size + 1 + 1) k (by omega)
      clear hst H1
      go_wp2_with fail
      go_roundw
      case rel => exact ⟨k + 1, by omega, by go_num, H2⟩
      case measure => simp [intOf]; omega
    · obtain rfl : k = 16 := by omega
      go_wp2_with fail
      go_loopw [5] (fun i wr => ∃ k : Nat, 16 ≤ k ∧ k ≤ 64 ∧ i = .int .i64 k ∧ Hid (CSp w f (swD f k) wr)) (fun i _ => 64 - (intOf i).toNat)
      case atStart => exact ⟨16, by omega, by omega, rfl, H⟩
      case round =>
        obtain ⟨k, hk16, hk, rfl, H1⟩ := hrel
        clear H
        have hk0 : (0 : Int) ≤ k := by omega
        by_cases hlt : k < 64
        · have hlt' : (k : Int) < 64 := by omega
          have HK := Lib.hid (And.intro hk16 hlt)
          obtain ⟨k2, h2⟩ : ∃ o, k - 2 = o := ⟨_, rfl⟩
          obtain ⟨k7, h7⟩ : ∃ o, k - 7 = o := ⟨_, rfl⟩
          obtain ⟨k15, h15⟩ : ∃ o, k - 15 = o := ⟨_, rfl⟩
          obtain ⟨k16, h16⟩ : ∃ o, k - 16 = o := ⟨_, rfl⟩
          have L := Lib.hid (show k2 < 64 ∧ k7 < 64 ∧ k15 < 64 ∧ k16 < 64 by omega)
          have S2 := Lib.hid (show ∀ w, (binOp BinOp.sub 3 (.int .i64 (k : Nat)) (.int .i64 2)).run Tryd.prog w = .ok (.int .i64 (k2 : Nat)) w from fun w => by rw [← h2]; exact subi k 2 (by omega) (by omega) w)
          have S7 := Lib.hid (show ∀ w, (binOp BinOp.sub 3 (.int .i64 (k : Nat)) (.int .i64 7)).run Tryd.prog w = .ok (.int .i64 (k7 : Nat)) w from fun w => by rw [← h7]; exact subi k 7 (by omega) (by omega) w)
          have S15 := Lib.hid (show ∀ w, (binOp BinOp.sub 3 (.int .i64 (k : Nat)) (.int .i64 15)).run Tryd.prog w = .ok (.int .i64 (k15 : Nat)) w from fun w => by rw [← h15]; exact subi k 15 (by omega) (by omega) w)
          have S16 := Lib.hid (show ∀ w, (binOp BinOp.sub 3 (.int .i64 (k : Nat)) (.int .i64 16)).run Tryd.prog w = .ok (.int .i64 (k16 : Nat)) w from fun w => by rw [← h16]; exact subi k 16 (by omega) (by omega) w)
          have hs := sw_hi f hk16
          rw [h2, h7, h15, h16] at hs
          have hX := swD_next f k
          have E2 := Lib.hid (swD_at f (show k2 < k by omega))
          have E7 := Lib.hid (swD_at f (show k7 < k by omega))
          have E15 := Lib.hid (swD_at f (show k15 < k by omega))
          have E16 := Lib.hid (swD_at f (show k16 < k by omega))
          obtain ⟨z2, g2⟩ : ∃ z, sw f k2 = z := ⟨_, rfl⟩
          obtain ⟨z7, g7⟩ : ∃ z, sw f k7 = z := ⟨_, rfl⟩
          obtain ⟨z15, g15⟩ : ∃ z, sw f k15 = z := ⟨_, rfl⟩
          obtain ⟨z16, g16⟩ : ∃ z, sw f k16 = z := ⟨_, rfl⟩
          rw [g2] at hs E2
          rw [g7] at hs E7
          rw [g15] at hs E15
          rw [g16] at hs E16
          rw [hs] at hX
          have HX := Lib.hid hX
          clear h2 h7 h15 h16 hs hX g2 g7 g15 g16
          go_wp2_with fail
          refine region_quiet_tail 23 (CSp w f (swD f k)) (by kernel_rfl) (by kernel_rfl) H1.out.drew ?_
          simp only [List.take_succ_cons, List.take_zero, List.drop_succ_cons, List.drop_zero]
          with_reducible refine q_val (.int .i64 (k : Nat)) (by kernel_rfl) (fun _ _ => by kernel_rfl) ?_
          with_reducible refine q_val (.int .i64 (k : Nat)) (by kernel_rfl) (fun _ _ => by kernel_rfl) ?_
          with_reducible refine q_v (binOp BinOp.sub 3 (.int .i64 (k : Nat)) (.int .i64 2)) (.int .i64 (k2 : Nat)) (by kernel_rfl) (by kernel_rfl) (fun wz _ => S2.out wz) ?_
          with_reducible refine q_v (Instr.indexAt 61 (.pointer (some ⟨w.heap.size + 1 + 1, 0, none⟩)) (.int .i64 (k2 : Nat))) (.pointer (some ⟨w.heap.size + 1 + 1, k2, none⟩)) (by kernel_rfl) (by kernel_rfl) (fun wz _ => ixW (w.heap.size + 1 + 1) k2 L.out.1 wz) ?_
          with_reducible refine q_load 38 (.tmp 26) (.pointer (some ⟨w.heap.size + 1 + 1, k2, none⟩)) (.int .u32 z2) rfl (by kernel_rfl) (by kernel_rfl) (fun _ h => h.ld k2 L.out.1 _ E2.out) ?_
          with_reducible refine q_call 31 #[.int .u32 z2, .int .i64 17, .int .i64 19, .int .i64 10] (.int .u32 (shf 17 19 10 z2)) (by kernel_rfl) (fun _ => by kernel_rfl) (fun wx h => (hshifted 17 19 10 (by decide) (by decide) (by decide) z2 wx).mono fun e w' hh => ⟨hh.1, by rw [hh.2]; exact h.drew⟩) ?_
          with_reducible refine q_val (.int .i64 (k : Nat)) (by kernel_rfl) (fun _ _ => by kernel_rfl) ?_
          with_reducible refine q_v (binOp BinOp.sub 3 (.int .i64 (k : Nat)) (.int .i64 7)) (.int .i64 (k7 : Nat)) (by kernel_rfl) (by kernel_rfl) (fun wz _ => S7.out wz) ?_
          with_reducible refine q_v (Instr.indexAt 61 (.pointer (some ⟨w.heap.size + 1 + 1, 0, none⟩)) (.int .i64 (k7 : Nat))) (.pointer (some ⟨w.heap.size + 1 + 1, k7, none⟩)) (by kernel_rfl) (by kernel_rfl) (fun wz _ => ixW (w.heap.size + 1 + 1) k7 L.out.2.1 wz) ?_
          with_reducible refine q_load 38 (.tmp 31) (.pointer (some ⟨w.heap.size + 1 + 1, k7, none⟩)) (.int .u32 z7) rfl (by kernel_rfl) (by kernel_rfl) (fun _ h => h.ld k7 L.out.2.1 _ E7.out) ?_
          with_reducible refine q_val (.int .u32 (IntKind.u32.wrap (shf 17 19 10 z2 + z7))) (by kernel_rfl) (fun _ _ => by kernel_rfl) ?_
          with_reducible refine q_val (.int .i64 (k : Nat)) (by kernel_rfl) (fun _ _ => by kernel_rfl) ?_
          with_reducible refine q_v (binOp BinOp.sub 3 (.int .i64 (k : Nat)) (.int .i64 15)) (.int .i64 (k15 : Nat)) (by kernel_rfl) (by kernel_rfl) (fun wz _ => S15.out wz) ?_
          with_reducible refine q_v (Instr.indexAt 61 (.pointer (some ⟨w.heap.size + 1 + 1, 0, none⟩)) (.int .i64 (k15 : Nat))) (.pointer (some ⟨w.heap.size + 1 + 1, k15, none⟩)) (by kernel_rfl) (by kernel_rfl) (fun wz _ => ixW (w.heap.size + 1 + 1) k15 L.out.2.2.1 wz) ?_
          with_reducible refine q_load 38 (.tmp 36) (.pointer (some ⟨w.heap.size + 1 + 1, k15, none⟩)) (.int .u32 z15) rfl (by kernel_rfl) (by kernel_rfl) (fun _ h => h.ld k15 L.out.2.2.1 _ E15.out) ?_
          with_reducible refine q_call 31 #[.int .u32 z15, .int .i64 7, .int .i64 18, .int .i64 3] (.int .u32 (shf 7 18 3 z15)) (by kernel_rfl) (fun _ => by kernel_rfl) (fun wx h => (hshifted 7 18 3 (by decide) (by decide) (by decide) z15 wx).mono fun e w' hh => ⟨hh.1, by rw [hh.2]; exact h.drew⟩) ?_
          with_reducible refine q_val (.int .u32 (IntKind.u32.wrap (IntKind.u32.wrap (shf 17 19 10 z2 + z7) + shf 7 18 3 z15))) (by kernel_rfl) (fun _ _ => by kernel_rfl) ?_
          with_reducible refine q_val (.int .i64 (k : Nat)) (by kernel_rfl) (fun _ _ => by kernel_rfl) ?_
          with_reducible refine q_v (binOp BinOp.sub 3 (.int .i64 (k : Nat)) (.int .i64 16)) (.int .i64 (k16 : Nat)) (by kernel_rfl) (by kernel_rfl) (fun wz _ => S16.out wz) ?_
          with_reducible refine q_v (Instr.indexAt 61 (.pointer (some ⟨w.heap.size + 1 + 1, 0, none⟩)) (.int .i64 (k16 : Nat))) (.pointer (some ⟨w.heap.size + 1 + 1, k16, none⟩)) (by kernel_rfl) (by kernel_rfl) (fun wz _ => ixW (w.heap.size + 1 + 1) k16 L.out.2.2.2 wz) ?_
          with_reducible refine q_load 38 (.tmp 42) (.pointer (some ⟨w.heap.size + 1 + 1, k16, none⟩)) (.int .u32 z16) rfl (by kernel_rfl) (by kernel_rfl) (fun _ h => h.ld k16 L.out.2.2.2 _ E16.out) ?_
          with_reducible refine q_val (.int .u32 (IntKind.u32.wrap (IntKind.u32.wrap (IntKind.u32.wrap (shf 17 19 10 z2 + z7) + shf 7 18 3 z15) + z16))) (by kernel_rfl) (fun _ _ => by kernel_rfl) ?_
          with_reducible refine q_v (Instr.indexAt 61 (.pointer (some ⟨w.heap.size + 1 + 1, 0, none⟩)) (.int .i64 (k : Nat))) (.pointer (some ⟨w.heap.size + 1 + 1, k, none⟩)) (by kernel_rfl) (by kernel_rfl) (fun wz _ => ixW (w.heap.size + 1 + 1) k HK.out.2 wz) ?_
          with_reducible refine wpQuiet_nil ?_
          intro w1 hCx
          simp only [Act.put, List.setIfInBounds_toArray, List.set_cons_succ, List.set_cons_zero]
          have co := (cell_of_row w1 _ k _ _ _ hCx.r2).trans (ar_at _ _ _ _ HK.out.2)
          have fo := frozen_of_row w1 _ k _ _ hCx.r2
          rw [wrap3]
          have hst := hCx.set k HK.out.2 ((shf 17 19 10 z2 + z7 + shf 7 18 3 z15 + z16) % 4294967296)
          rw [HX.out] at hst
          have H2 := Lib.hid hst
          clear hCx hst H1
          go_wp2_with fail
          go_roundw
          case rel => exact ⟨k + 1, by omega, by omega, by go_num, H2⟩
          case measure => simp [intOf]; omega
        · obtain rfl : k = 64 := by omega
          have hr := H1.out.r2
          rw [swD_64] at hr
          have HB := Lib.hid (And.intro H1.out.old (And.intro hr H1.out.r1))
          clear hr H1
          obtain ⟨y, hy⟩ : ∃ y, sw f = y := ⟨_, rfl⟩
          rw [hy] at HB
          have HY := Lib.hid hy
          clear hy
          go_wp2_with (first | (refine wpList_load_row rfl 61 _ rfl (w.heap.size + 1 + 1) rfl 61 _ (0, 0) _ HB.out.2.1 Tryd.underlying61 rfl (HI y).out ?_) | (refine wpList_store_row rfl 61 _ _ rfl (w.heap.size + 1) (ar .u32 64 y) rfl rfl 61 _ HB.out.2.2 (HI y).out (by rw [ar_size]; rfl) (ar_one _ _ _) ?_))
          refine bodyPost_ret (v := .agg (ar .u32 64 y)) (results_cell_row (p := 2) rfl _ _ (w.heap.size + 1) 61 _ (0, 0) _ rfl (setRow_heap _ _ _ _ _ _ HB.out.2.2) Tryd.underlying61 rfl (HI y).out) rfl ⟨by rw [HY.out], below_setRow HB.out.1 (by omega) _⟩
end Go.Proofs.YtkecehcnoihiiaaDoor
namespace Go.Proofs.YtkecehcnoihiiaaDoor
open Go.RowKit

def kT (i : Nat) : Int := [1116352408, 1899447441, 3049323471, 3921009573, 961987163, 1508970993, 2453635748, 2870763221, 3624381080, 310598401, 607225278, 1426881987, 1925078388, 2162078206, 2614888103, 3248222580, 3835390401, 4022224774, 264347078, 604807628, 770255983, 1249150122, 1555081692, 1996064986, 2554220882, 2821834349, 2952996808, 3210313671, 3336571891, 3584528711, 113926993, 338241895, 666307205, 773529912, 1294757372, 1396182291, 1695183700, 1986661051, 2177026350, 2456956037, 2730485921, 2820302411, 3259730800, 3345764771, 3516065817, 3600352804, 4094571909, 275423344, 430227734, 506948616, 659060556, 883997877, 958139571, 1322822218, 1537002063, 1747873779, 1955562222, 2024104815, 2227730452, 2361852424, 2428436474, 2756734187, 3204031479, 3329325298].getD i 0
/-- A round with the constant k and the number x. -/
def rT1 (k x : Int) (v : Nat → Int) : Int := (v 7 + trd 6 11 25 (v 4) + bits .xor .u32 (bits .and .u32 (v 4) (v 5)) (bits .andNot .u32 (v 6) (v 4)) + k + x) % 4294967296
def rT2 (v : Nat → Int) : Int := (trd 2 13 22 (v 0) + bits .xor .u32 (bits .xor .u32 (bits .and .u32 (v 0) (v 1)) (bits .and .u32 (v 0) (v 2))) (bits .and .u32 (v 1) (v 2))) % 4294967296
def stp (k x : Int) (v : Nat → Int) (j : Nat) : Int :=
  if j = 0 then (rT1 k x v + rT2 v) % 4294967296 else if j = 4 then (v 3 + rT1 k x v) % 4294967296 else v (j - 1)
/-- The eight numbers behind n rounds. -/
def rds (h x : Nat → Int) : Nat → Nat → Int
  | 0 => h
  | n + 1 => stp (kT n) (x n) (rds h x n)
/-- The eight numbers behind a block. -/
def hmx (h : Nat → Int) (f : Nat → Nat) (j : Nat) : Int := (h j + rds h (sw f) 64 j) % 4294967296
/-- Eight numbers ahead of a tail. -/
def hr (v : Nat → Int) (tl : Array Value) : Array Value := ar .u32 8 v ++ tl
theorem hr_at (v : Nat → Int) (tl : Array Value) (j : Nat) (h : j < 8) : (hr v tl)[j]? = some (.int .u32 (v j)) := by
  unfold hr
  rw [Array.getElem?_append_left (by rw [ar_size]; exact h)]
  exact ar_at _ _ _ _ h
theorem hr_set (v : Nat → Int) (tl : Array Value) (p : Nat) (y : Int) (h : p < 8) : (hr v tl).setIfInBounds p (.int .u32 y) = hr (updI v p y) tl := by
  unfold hr
  rw [← ar_set _ _ _ _ _ h, Array.setIfInBounds_append, if_pos (by rw [ar_size]; exact h)]
/-- Nothing that was there has turned but the block V. -/
structure Bt (V : Nat) (w w' : World) : Prop where
  os : w'.os = w.os
  tape : w'.tape = w.tape
  output : w'.output = w.output
  size : w.heap.size ≤ w'.heap.size
  block : ∀ k, k ≠ V → k < w.heap.size → w'.heap[k]? = w.heap[k]?
theorem Bt.refl (V : Nat) (w : World) : Bt V w w := ⟨rfl, rfl, rfl, Nat.le_refl _, fun _ _ _ => rfl⟩
theorem Bt.trans {V : Nat} {w w' w'' : World} (h : Bt V w w') (h' : Bt V w' w'') : Bt V w w'' :=
  ⟨h'.os.trans h.os, h'.tape.trans h.tape, h'.output.trans h.output, Nat.le_trans h.size h'.size, fun k hk hl => (h'.block k hk (Nat.lt_of_lt_of_le hl h.size)).trans (h.block k hk hl)⟩
theorem Bt.of_below {V : Nat} {w w' : World} (h : Below w.heap.size w w') : Bt V w w' := ⟨h.os, h.tape, h.output, h.size, fun k _ hl => h.block k hl⟩
theorem Bt.below {V B : Nat} {w0 w w' : World} (h0 : Below B w0 w) (h : Bt V w w') (hB : B ≤ V) (hl : B ≤ w.heap.size) : Below B w0 w' :=
  h0.trans ⟨h.os, h.tape, h.output, h.size, fun k hk => h.block k (by omega) (by omega)⟩
theorem Bt.drew {V : Nat} {w w' : World} (h : Bt V w w') : Bt V w w'.drew := ⟨h.os, h.tape, h.output, h.size, h.block⟩
theorem Bt.set {V : Nat} {w w' : World} (h : Bt V w w') (j : Nat) (u : Value) : Bt V w (w'.setCell ⟨V, j, none⟩ u) :=
  ⟨h.os, h.tape, h.output, by simpa using h.size, fun k hk hl => (Below.heap_setCell _ _ _ _ hk).trans (h.block k hk hl)⟩
theorem Bt.setRow {V R : Nat} {w w' : World} (h : Bt V w w') (hR : w.heap.size ≤ R) (cs : Array Value) : Bt V w (w'.setRow R cs) :=
  ⟨h.os, h.tape, h.output, by simpa using h.size, fun k hk hl => (setRow_other _ _ _ _ (by omega)).trans (h.block k hk hl)⟩
theorem Bt.row {V : Nat} {w w' : World} (h : Bt V w w') (cs : Array Value) : Bt V w (w'.setRow V cs) :=
  ⟨h.os, h.tape, h.output, by simpa using h.size, fun k hk hl => (setRow_other _ _ _ _ hk).trans (h.block k hk hl)⟩
theorem Bt.cell {V : Nat} {w w' : World} (h : Bt V w w') {p : Addr} (hp : p.block ≠ V) (hl : p.block < w.heap.size) : w'.cell? p = w.cell? p := World.cell?_of_block (w := w) (h.block p.block hp hl)
theorem Bt.alloc {V : Nat} {w w' : World} (h : Bt V w w') (o : Obj) : Bt V w (w'.alloc o) := h.trans (Bt.of_below ((Below.refl _ _).alloc (Nat.le_refl _) _))
/-- The table lies as the program lays it. -/
def STab (w : World) : Prop := ∀ t, t < 64 → w.cell? ⟨0, t, none⟩ = some (.int .u32 (kT t))
theorem block_lt_of_cell {w : World} {g o : Nat} {v : Value} (h : w.cell? ⟨g, o, none⟩ = some v) : g < w.heap.size := by
  simpa using World.block_lt_of_cell? w _ h
theorem STab.bt {w w' : World} {V : Nat} (h : STab w) (hV : 0 ≠ V) (hb : Bt V w w') : STab w' := fun t ht => (hb.cell (p := ⟨0, t, none⟩) hV (block_lt_of_cell (h t ht))).trans (h t ht)
theorem STab.below {w w' : World} (h : STab w) (hb : Below w.heap.size w w') : STab w' := fun t ht => (hb.cell (p := ⟨0, t, none⟩) (block_lt_of_cell (h t ht))).trans (h t ht)
theorem sapt_of {w : World} (hT : STab w) {V : Nat} (h : w.heap.size ≤ V) : 0 ≠ V := by
  have h1 := block_lt_of_cell (hT 0 (by decide))
  omega
theorem ixR (t : Nat) (h : t < 64) (w : World) : (Instr.indexAt 61 (.pointer (some ⟨0, 0, none⟩)) (.int .i64 (t : Nat))).run Tryd.prog w = .ok (.pointer (some ⟨0, t, none⟩)) w := by
  have h0 : (0 : Int) ≤ t := by omega
  have h1 : (t : Int) < 64 := by omega
  go_simp
theorem ixH (V p : Nat) (h : p < 8) (w : World) : (Instr.indexAt 43 (.pointer (some ⟨V, 0, none⟩)) (.int .i64 (p : Nat))).run Tryd.prog w = .ok (.pointer (some ⟨V, p, none⟩)) w := by
  have h0 : (0 : Int) ≤ p := by omega
  have h1 : (p : Int) < 8 := by omega
  go_simp
theorem wrap4 (a b c d e : Int) : IntKind.u32.wrap (IntKind.u32.wrap (IntKind.u32.wrap (IntKind.u32.wrap (a + b) + c) + d) + e) = (a + b + c + d + e) % 4294967296 := by
  simp only [IntKind.wrap_u32]
  omega
theorem wrap1 (a b : Int) : IntKind.u32.wrap (a + b) = (a + b) % 4294967296 := IntKind.wrap_u32 _
theorem ar8_lit (r : Nat → Int) : ar .u32 8 r = #[.int .u32 (r 0), .int .u32 (r 1), .int .u32 (r 2), .int .u32 (r 3), .int .u32 (r 4), .int .u32 (r 5), .int .u32 (r 6), .int .u32 (r 7)] := by kernel_rfl
theorem info64b : (Tryd.prog.info? 46).map (·.size) = some 64 := by kernel_rfl
/-- The worlds of mix: the eight numbers ahead of a tail at V, the 64 at G. -/
structure CMx (w : World) (V G : Nat) (tt : TypeId) (tl : Array Value) (v x : Nat → Int) (wx : World) : Prop where
  bt : Bt V w wx
  row : wx.heap[V]? = some (.cells (hr v tl) tt (0, 0))
  rg : wx.heap[G]? = some (.cells (ar .u32 64 x) 61 (0, 0))
  ne : G ≠ V
section
variable {w wx : World} {V G : Nat} {tt : TypeId} {tl : Array Value} {v x : Nat → Int}
theorem CMx.drew (c : CMx w V G tt tl v x wx) : CMx w V G tt tl v x wx.drew := ⟨c.bt.drew, c.row, c.rg, c.ne⟩
theorem CMx.cell (c : CMx w V G tt tl v x wx) (j : Nat) (hj : j < 8) : wx.cell? ⟨V, j, none⟩ = some (.int .u32 (v j)) := (cell_of_row wx _ j _ _ _ c.row).trans (hr_at _ _ _ hj)
theorem CMx.ld (c : CMx w V G tt tl v x wx) (j : Nat) (hj : j < 8) (z : Int) (hz : v j = z) : (Instr.loadAt 38 (.pointer (some ⟨V, j, none⟩))).run Tryd.prog wx = .ok (.int .u32 z) wx := load_u32 _ _ _ _ (by rw [← hz]; exact c.cell j hj)
theorem CMx.set (c : CMx w V G tt tl v x wx) (j : Nat) (hj : j < 8) (y : Int) : CMx w V G tt tl (updI v j y) x (wx.setCell ⟨V, j, none⟩ (.int .u32 y)) :=
  ⟨c.bt.set j _, (heap_setCell_same _ _ _ _ _ _ c.row).trans (by rw [hr_set _ _ _ _ hj]), (heap_setCell_other _ _ _ _ c.ne).trans c.rg, c.ne⟩
end
/-- The first k numbers added. -/
def adD (h r : Nat → Int) (k j : Nat) : Int := if j < k then (h j + r j) % 4294967296 else h j
theorem adD_next (h r : Nat → Int) (k : Nat) : updI (adD h r k) k ((h k + r k) % 4294967296) = adD h r (k + 1) := by
  funext j
  unfold updI adD
  by_cases e : j = k
  · subst e; rw [if_pos rfl, if_pos (by omega)]
  · rw [if_neg e]
    by_cases e2 : j < k
    · rw [if_pos e2, if_pos (by omega)]
    · rw [if_neg e2, if_neg (by omega)]
theorem adD_0 (h r : Nat → Int) : adD h r 0 = h := funext fun j => by unfold adD; rw [if_neg (by omega)]
theorem adD_at (h r : Nat → Int) (k : Nat) : adD h r k k = h k := by unfold adD; rw [if_neg (by omega)]
theorem adD_8 (h : Nat → Int) (f : Nat → Nat) (tl : Array Value) : hr (adD h (rds h (sw f) 64) 8) tl = hr (hmx h f) tl := by
  unfold hr
  rw [ar_congr (fun j hj => show adD h (rds h (sw f) 64) 8 j = hmx h f j by unfold adD hmx; rw [if_pos hj])]
set_option maxRecDepth 100000 in
set_option maxHeartbeats 8000000 in
-- WHAT mix COMES TO.
theorem hmix {V : Nat} {tt : TypeId} {tl : Array Value} (h : Nat → Int) (f : Nat → Nat) (hf : ∀ j, f j < 256) (w : World) (hT : STab w) (hA : 0 ≠ V) (hw : w.heap[V]? = some (.cells (hr h tl) tt (0, 0))) :
    Calls Tryd.prog 18 #[.pointer (some ⟨V, 0, none⟩), .agg (ar .u8 64 fun j => (f j : Nat))] w fun e w' => e = .returned (.tuple #[]) ∧ Bt V w w' ∧ w'.heap[V]? = some (.cells (hr (hmx h f) tl) tt (0, 0)) := by
  have HSP := Lib.hid (hspread f hf); clear hf
  have HI : ∀ v, Hid ((Tryd.prog.info? 61).map (·.size) = some (ar .u32 64 v).size) := fun v => Lib.hid (by rw [ar_size]; exact info64w)
  have HI8 : Hid ((Tryd.prog.info? 46).map (·.size) = some (ar .u8 64 fun j => (f j : Nat)).size) := Lib.hid (by rw [ar_size]; exact info64b)
  have hV : V < w.heap.size := (Array.getElem?_eq_some_iff.1 hw).1
  have HB := Lib.hid (heap_alloc_new w (.cells (ar .u8 64 fun j => (f j : Nat)) 46))
  have H0 := Lib.hid (show Bt V w (w.alloc (.cells (ar .u8 64 fun j => (f j : Nat)) 46)) ∧ (w.alloc (.cells (ar .u8 64 fun j => (f j : Nat)) 46)).heap[V]? = some (.cells (hr h tl) tt (0, 0)) from ⟨(Bt.refl _ _).alloc _, (heap_alloc_old _ _ hV).trans hw⟩)
  have HT := Lib.hid (And.intro hT (And.intro hA hV))
  clear hw hT hA hV
  go_enter Tryd.func18, Tryd.ntmps18
  go_wp2_with (refine wpList_load_row rfl 46 _ rfl w.heap.size rfl 46 _ (0, 0) _ HB.out Tryd.underlying46 rfl HI8.out ?_)
  refine (HSP.out _).mono ?_
  rintro e w2 ⟨rfl, hb⟩
  obtain ⟨x, hx⟩ : ∃ x, sw f = x := ⟨_, rfl⟩
  rw [hx]
  have HX := Lib.hid hx
  obtain ⟨G, hG⟩ : ∃ G, w2.heap.size = G := ⟨_, rfl⟩
  have HRG := Lib.hid (show (w2.alloc (.cells #[.int .u32 0, .int .u32 0, .int .u32 0, .int .u32 0, .int .u32 0, .int .u32 0, .int .u32 0, .int .u32 0, .int .u32 0, .int .u32 0, .int .u32 0, .int .u32 0, .int .u32 0, .int .u32 0, .int .u32 0, .int .u32 0, .int .u32 0, .int .u32 0, .int .u32 0, .int .u32 0, .int .u32 0, .int .u32 0, .int .u32 0, .int .u32 0, .int .u32 0, .int .u32 0, .int .u32 0, .int .u32 0, .int .u32 0, .int .u32 0, .int .u32 0, .int .u32 0, .int .u32 0, .int .u32 0, .int .u32 0, .int .u32 0, .int .u32 0, .int .u32 0, .int .u32 0, .int .u32 0, .int .u32 0, .int .u32 0, .int .u32 0, .int .u32 0, .int .u32 0, .int .u32 0, .int .u32 0, .int .u32 0, .int .u32 0, .int .u32 0, .int .u32 0, .int .u32 0, .int .u32 0, .int .u32 0, .int .u32 0, .int .u32 0, .int .u32 0, .int .u32 0, .int .u32 0, .int .u32 0, .int .u32 0, .int .u32 0, .int .u32 0, .int .u32 0] 61)).heap[G]? = some (.cells #[.int .u32 0, .int .u32 0, .int .u32 0, .int .u32 0, .int .u32 0, .int .u32 0, .int .u32 0, .int .u32 0, .int .u32 0, .int .u32 0, .int .u32 0, .int .u32 0, .int .u32 0, .int .u32 0, .int .u32 0, .int .u32 0, .int .u32 0, .int .u32 0, .int .u32 0, .int .u32 0, .int .u32 0, .int .u32 0, .int .u32 0, .int .u32 0, .int .u32 0, .int .u32 0, .int .u32 0, .int .u32 0, .int .u32 0, .int .u32 0, .int .u32 0, .int .u32 0, .int .u32 0, .int .u32 0, .int .u32 0, .int .u32 0, .int .u32 0, .int .u32 0, .int .u32 0, .int .u32 0, .int .u32 0, .int .u32 0, .int .u32 0, .int .u32 0, .int .u32 0, .int .u32 0, .int .u32 0, .int .u32 0, .int .u32 0, .int .u32 0, .int .u32 0, .int .u32 0, .int .u32 0, .int .u32 0, .int .u32 0, .int .u32 0, .int .u32 0, .int .u32 0, .int .u32 0, .int .u32 0, .int .u32 0, .int .u32 0, .int .u32 0, .int .u32 0] 61 (0, 0)) by rw [← hG]; exact heap_alloc_new _ _)
  have H2 := Lib.hid (show CMx w V G tt tl h x ((w2.alloc (.cells #[.int .u32 0, .int .u32 0, .int .u32 0, .int .u32 0, .int .u32 0, .int .u32 0, .int .u32 0, .int .u32 0, .int .u32 0, .int .u32 0, .int .u32 0, .int .u32 0, .int .u32 0, .int .u32 0, .int .u32 0, .int .u32 0, .int .u32 0, .int .u32 0, .int .u32 0, .int .u32 0, .int .u32 0, .int .u32 0, .int .u32 0, .int .u32 0, .int .u32 0, .int .u32 0, .int .u32 0, .int .u32 0, .int .u32 0, .int .u32 0, .int .u32 0, .int .u32 0, .int .u32 0, .int .u32 0, .int .u32 0, .int .u32 0, .int .u32 0, .int .u32 0, .int .u32 0, .int .u32 0, .int .u32 0, .int .u32 0, .int .u32 0, .int .u32 0, .int .u32 0, .int .u32 0, .int .u32 0, .int .u32 0, .int .u32 0, .int .u32 0, .int .u32 0, .int .u32 0, .int .u32 0, .int .u32 0, .int .u32 0, .int .u32 0, .int .u32 0, .int .u32 0, .int .u32 0, .int .u32 0, .int .u32 0, .int .u32 0, .int .u32 0, .int .u32 0] 61)).setRow G (ar .u32 64 x)) from by
    have hV := HT.out.2.2
    have hs := hb.size
    simp only [World.size_alloc] at hs
    have b1 : Bt V w w2 := H0.out.1.trans (Bt.of_below hb)
    exact ⟨(b1.alloc _).setRow (by have := b1.size; omega) _, (setRow_other _ _ _ _ (by have := b1.size; omega)).trans ((heap_alloc_old _ _ (by have := b1.size; omega)).trans ((hb.block _ (by simp; omega)).trans H0.out.2)), setRow_heap _ _ _ _ _ _ HRG.out, by have := b1.size; omega⟩)
  clear hb hx H0 HB HSP
  go_wp2_with (refine wpList_store_row rfl 61 _ _ rfl G (ar .u32 64 x) rfl rfl 61 _ HRG.out (HI x).out (by rw [ar_size]; rfl) (ar_one _ _ _) ?_)
  refine wp_region_quiet (C := CMx w V G tt tl h x) (by kernel_rfl) (by kernel_rfl) H2.out.drew ?_
  with_reducible refine q_val (.pointer (some ⟨V, 0, none⟩)) (by kernel_rfl) (fun _ _ => by kernel_rfl) ?_
  with_reducible refine q_val (.pointer (some ⟨V, 0, none⟩)) (by kernel_rfl) (fun _ _ => by kernel_rfl) ?_
  with_reducible refine q_val (.pointer (some ⟨V, 0, none⟩)) (by kernel_rfl) (fun _ _ => by kernel_rfl) ?_
  with_reducible refine q_load 38 (.tmp 23) (.pointer (some ⟨V, 0, none⟩)) (.int .u32 (h 0)) rfl (by kernel_rfl) (by kernel_rfl) (fun _ c => c.ld 0 (by decide) _ rfl) ?_
  with_reducible refine q_val (.pointer (some ⟨V, 0, none⟩)) (by kernel_rfl) (fun _ _ => by kernel_rfl) ?_
  with_reducible refine q_val (.pointer (some ⟨V, 0, none⟩)) (by kernel_rfl) (fun _ _ => by kernel_rfl) ?_
  with_reducible refine q_val (.pointer (some ⟨V, 1, none⟩)) (by kernel_rfl) (fun _ _ => by kernel_rfl) ?_
  with_reducible refine q_load 38 (.tmp 27) (.pointer (some ⟨V, 1, none⟩)) (.int .u32 (h 1)) rfl (by kernel_rfl) (by kernel_rfl) (fun _ c => c.ld 1 (by decide) _ rfl) ?_
  with_reducible refine q_val (.pointer (some ⟨V, 0, none⟩)) (by kernel_rfl) (fun _ _ => by kernel_rfl) ?_
  with_reducible refine q_val (.pointer (some ⟨V, 0, none⟩)) (by kernel_rfl) (fun _ _ => by kernel_rfl) ?_
  with_reducible refine q_val (.pointer (some ⟨V, 2, none⟩)) (by kernel_rfl) (fun _ _ => by kernel_rfl) ?_
  with_reducible refine q_load 38 (.tmp 31) (.pointer (some ⟨V, 2, none⟩)) (.int .u32 (h 2)) rfl (by kernel_rfl) (by kernel_rfl) (fun _ c => c.ld 2 (by decide) _ rfl) ?_
  with_reducible refine q_val (.pointer (some ⟨V, 0, none⟩)) (by kernel_rfl) (fun _ _ => by kernel_rfl) ?_
  with_reducible refine q_val (.pointer (some ⟨V, 0, none⟩)) (by kernel_rfl) (fun _ _ => by kernel_rfl) ?_
  with_reducible refine q_val (.pointer (some ⟨V, 3, none⟩)) (by kernel_rfl) (fun _ _ => by kernel_rfl) ?_
  with_reducible refine q_load 38 (.tmp 35) (.pointer (some ⟨V, 3, none⟩)) (.int .u32 (h 3)) rfl (by kernel_rfl) (by kernel_rfl) (fun _ c => c.ld 3 (by decide) _ rfl) ?_
  with_reducible refine q_val (.pointer (some ⟨V, 0, none⟩)) (by kernel_rfl) (fun _ _ => by kernel_rfl) ?_
  with_reducible refine q_val (.pointer (some ⟨V, 0, none⟩)) (by kernel_rfl) (fun _ _ => by kernel_rfl) ?_
  with_reducible refine q_val (.pointer (some ⟨V, 4, none⟩)) (by kernel_rfl) (fun _ _ => by kernel_rfl) ?_
  with_reducible refine q_load 38 (.tmp 39) (.pointer (some ⟨V, 4, none⟩)) (.int .u32 (h 4)) rfl (by kernel_rfl) (by kernel_rfl) (fun _ c => c.ld 4 (by decide) _ rfl) ?_
  with_reducible refine q_val (.pointer (some ⟨V, 0, none⟩)) (by kernel_rfl) (fun _ _ => by kernel_rfl) ?_
  with_reducible refine q_val (.pointer (some ⟨V, 0, none⟩)) (by kernel_rfl) (fun _ _ => by kernel_rfl) ?_
  with_reducible refine q_val (.pointer (some ⟨V, 5, none⟩)) (by kernel_rfl) (fun _ _ => by kernel_rfl) ?_
  with_reducible refine q_load 38 (.tmp 43) (.pointer (some ⟨V, 5, none⟩)) (.int .u32 (h 5)) rfl (by kernel_rfl) (by kernel_rfl) (fun _ c => c.ld 5 (by decide) _ rfl) ?_
  with_reducible refine q_val (.pointer (some ⟨V, 0, none⟩)) (by kernel_rfl) (fun _ _ => by kernel_rfl) ?_
  with_reducible refine q_val (.pointer (some ⟨V, 0, none⟩)) (by kernel_rfl) (fun _ _ => by kernel_rfl) ?_
  with_reducible refine q_val (.pointer (some ⟨V, 6, none⟩)) (by kernel_rfl) (fun _ _ => by kernel_rfl) ?_
  with_reducible refine q_load 38 (.tmp 47) (.pointer (some ⟨V, 6, none⟩)) (.int .u32 (h 6)) rfl (by kernel_rfl) (by kernel_rfl) (fun _ c => c.ld 6 (by decide) _ rfl) ?_
  with_reducible refine q_val (.pointer (some ⟨V, 0, none⟩)) (by kernel_rfl) (fun _ _ => by kernel_rfl) ?_
  with_reducible refine q_val (.pointer (some ⟨V, 0, none⟩)) (by kernel_rfl) (fun _ _ => by kernel_rfl) ?_
  with_reducible refine q_val (.pointer (some ⟨V, 7, none⟩)) (by kernel_rfl) (fun _ _ => by kernel_rfl) ?_
  with_reducible refine q_load 38 (.tmp 51) (.pointer (some ⟨V, 7, none⟩)) (.int .u32 (h 7)) rfl (by kernel_rfl) (by kernel_rfl) (fun _ c => c.ld 7 (by decide) _ rfl) ?_
  with_reducible refine q_val (.int .u32 (h 0)) (by kernel_rfl) (fun _ _ => by kernel_rfl) ?_
  with_reducible refine q_val (.int .u32 (h 1)) (by kernel_rfl) (fun _ _ => by kernel_rfl) ?_
  with_reducible refine q_val (.int .u32 (h 2)) (by kernel_rfl) (fun _ _ => by kernel_rfl) ?_
  with_reducible refine q_val (.int .u32 (h 3)) (by kernel_rfl) (fun _ _ => by kernel_rfl) ?_
  with_reducible refine q_val (.int .u32 (h 4)) (by kernel_rfl) (fun _ _ => by kernel_rfl) ?_
  with_reducible refine q_val (.int .u32 (h 5)) (by kernel_rfl) (fun _ _ => by kernel_rfl) ?_
  with_reducible refine q_val (.int .u32 (h 6)) (by kernel_rfl) (fun _ _ => by kernel_rfl) ?_
  with_reducible refine q_val (.int .u32 (h 7)) (by kernel_rfl) (fun _ _ => by kernel_rfl) ?_
  with_reducible refine wpQuiet_nil ?_
  intro w3 hC
  simp only [Act.put, List.setIfInBounds_toArray, List.set_cons_succ, List.set_cons_zero]
  have H3 := Lib.hid hC
  have HG3 := Lib.hid hC.rg
  clear hC H2 HRG hG
  go_wp2_with (refine wpList_load_row rfl 61 _ rfl G rfl 61 _ (0, 0) _ HG3.out Tryd.underlying61 rfl (HI x).out ?_)
  clear HG3
  go_loopw [5, 6, 7, 8, 9, 10, 11, 12, 54] (fun a b c d e f g hh i wr => ∃ k : Nat, k ≤ 64 ∧ i = .int .i64 k ∧ a = .int .u32 (rds h x k 0) ∧ b = .int .u32 (rds h x k 1) ∧ c = .int .u32 (rds h x k 2) ∧ d = .int .u32 (rds h x k 3) ∧ e = .int .u32 (rds h x k 4) ∧ f = .int .u32 (rds h x k 5) ∧ g = .int .u32 (rds h x k 6) ∧ hh = .int .u32 (rds h x k 7) ∧ Hid (CMx w V G tt tl h x wr)) (fun _ _ _ _ _ _ _ _ i _ => 64 - (intOf i).toNat)
  case atStart => exact ⟨0, by omega, rfl, rfl, rfl, rfl, rfl, rfl, rfl, rfl, rfl, H3⟩
  case round =>
    obtain ⟨k, hk, rfl, rfl, rfl, rfl, rfl, rfl, rfl, rfl, rfl, H⟩ := hrel
    clear H3
    have hk0 : (0 : Int) ≤ k := by omega
    by_cases hlt : k < 64
    · have hlt' : (k : Int) < 64 := by omega
      have HK := Lib.hid hlt
      have hix : ∀ w, (Instr.index 61 (.agg (ar .u32 64 x)) (.int .i64 k)).run Tryd.prog w = .ok (.int .u32 (x k)) w := fun w => index_ar w Tryd.underlying61 (by kernel_rfl) (by kernel_rfl) hlt
      obtain ⟨v, hv⟩ : ∃ v, rds h x k = v := ⟨_, rfl⟩
      have HN := Lib.hid (show rds h x (k + 1) = stp (kT k) (x k) v from by rw [← hv]; rfl)
      rw [hv]
      have HC := Lib.hid (show ∀ wx, CMx w V G tt tl h x wx → wx.cell? ⟨0, k, none⟩ = some (.int .u32 (kT k)) from fun wx c => (HT.out.1.bt HT.out.2.1 c.bt) k HK.out)
      obtain ⟨y, hy⟩ : ∃ y, x k = y := ⟨_, rfl⟩
      obtain ⟨z, hz⟩ : ∃ z, kT k = z := ⟨_, rfl⟩
      rw [hy, hz] at HN
      rw [hz] at HC
      rw [hy] at hix
      clear hv hy hz
      go_wp2_with fail
      refine wp_region_quiet (C := CMx w V G tt tl h x) (by kernel_rfl) (by kernel_rfl) H.out.drew ?_
      with_reducible refine q_val (.int .u32 (v 7)) (by kernel_rfl) (fun _ _ => by kernel_rfl) ?_
      with_reducible refine q_val (.int .u32 (v 4)) (by kernel_rfl) (fun _ _ => by kernel_rfl) ?_
      with_reducible refine q_call 26 #[.int .u32 (v 4), .int .i64 6, .int .i64 11, .int .i64 25] (.int .u32 (trd 6 11 25 (v 4))) (by kernel_rfl) (fun _ => by kernel_rfl) (fun wx c => (hturned 6 11 25 (by decide) (by decide) (by decide) (v 4) wx).mono fun e w' hh => ⟨hh.1, by rw [hh.2]; exact c⟩) ?_
      with_reducible refine q_val (.int .u32 (IntKind.u32.wrap (v 7 + trd 6 11 25 (v 4)))) (by kernel_rfl) (fun _ _ => by kernel_rfl) ?_
      with_reducible refine q_val (.int .u32 (v 4)) (by kernel_rfl) (fun _ _ => by kernel_rfl) ?_
      with_reducible refine q_val (.int .u32 (v 5)) (by kernel_rfl) (fun _ _ => by kernel_rfl) ?_
      with_reducible refine q_val (.int .u32 (bits .and .u32 (v 4) (v 5))) (by kernel_rfl) (fun _ _ => by kernel_rfl) ?_
      with_reducible refine q_val (.int .u32 (v 6)) (by kernel_rfl) (fun _ _ => by kernel_rfl) ?_
      with_reducible refine q_val (.int .u32 (v 4)) (by kernel_rfl) (fun _ _ => by kernel_rfl) ?_
      with_reducible refine q_val (.int .u32 (bits .andNot .u32 (v 6) (v 4))) (by kernel_rfl) (fun _ _ => by kernel_rfl) ?_
      with_reducible refine q_val (.int .u32 (bits .xor .u32 (bits .and .u32 (v 4) (v 5)) (bits .andNot .u32 (v 6) (v 4)))) (by kernel_rfl) (fun _ _ => by kernel_rfl) ?_
      with_reducible refine q_val (.int .u32 (IntKind.u32.wrap (IntKind.u32.wrap (v 7 + trd 6 11 25 (v 4)) + bits .xor .u32 (bits .and .u32 (v 4) (v 5)) (bits .andNot .u32 (v 6) (v 4))))) (by kernel_rfl) (fun _ _ => by kernel_rfl) ?_
      with_reducible refine q_val (.int .i64 (k : Nat)) (by kernel_rfl) (fun _ _ => by kernel_rfl) ?_
      with_reducible refine q_v (Instr.indexAt 61 (.pointer (some ⟨0, 0, none⟩)) (.int .i64 (k : Nat))) (.pointer (some ⟨0, k, none⟩)) (by kernel_rfl) (by kernel_rfl) (fun wz _ => ixR k HK.out wz) ?_
      with_reducible refine q_load 38 (.tmp 71) (.pointer (some ⟨0, k, none⟩)) (.int .u32 z) rfl (by kernel_rfl) (by kernel_rfl) (fun _ c => load_u32 _ _ _ _ (HC.out _ c)) ?_
      with_reducible refine q_val (.int .u32 (IntKind.u32.wrap (IntKind.u32.wrap (IntKind.u32.wrap (v 7 + trd 6 11 25 (v 4)) + bits .xor .u32 (bits .and .u32 (v 4) (v 5)) (bits .andNot .u32 (v 6) (v 4))) + z))) (by kernel_rfl) (fun _ _ => by kernel_rfl) ?_
      with_reducible refine q_val (.int .u32 y) (by kernel_rfl) (fun _ _ => by kernel_rfl) ?_
      with_reducible refine q_val (.int .u32 (IntKind.u32.wrap (IntKind.u32.wrap (IntKind.u32.wrap (IntKind.u32.wrap (v 7 + trd 6 11 25 (v 4)) + bits .xor .u32 (bits .and .u32 (v 4) (v 5)) (bits .andNot .u32 (v 6) (v 4))) + z) + y))) (by kernel_rfl) (fun _ _ => by kernel_rfl) ?_
      with_reducible refine q_val (.int .u32 (IntKind.u32.wrap (IntKind.u32.wrap (IntKind.u32.wrap (IntKind.u32.wrap (v 7 + trd 6 11 25 (v 4)) + bits .xor .u32 (bits .and .u32 (v 4) (v 5)) (bits .andNot .u32 (v 6) (v 4))) + z) + y))) (by kernel_rfl) (fun _ _ => by kernel_rfl) ?_
      with_reducible refine wpQuiet_nil ?_
      intro w4 hC
      simp only [Act.put, List.setIfInBounds_toArray, List.set_cons_succ, List.set_cons_zero]
      rw [wrap4]
      obtain ⟨T1, hT1⟩ : ∃ T1, rT1 z y v = T1 := ⟨_, rfl⟩
      rw [show (v 7 + trd 6 11 25 (v 4) + bits .xor .u32 (bits .and .u32 (v 4) (v 5)) (bits .andNot .u32 (v 6) (v 4)) + z + y) % 4294967296 = T1 from hT1]
      have H4 := Lib.hid hC
      clear hC H
      go_wp2_with fail
      refine (hturned 2 13 22 (by decide) (by decide) (by decide) (v 0) _).mono ?_
      rintro e w' ⟨rfl, rfl⟩
      have HT1 := Lib.hid hT1
      clear hT1
      go_wp2_with fail
      go_roundw
      case rel =>
        refine ⟨k + 1, by omega, by go_num, ?_, ?_, ?_, ?_, ?_, ?_, ?_, ?_, H4⟩
        all_goals rw [HN.out]
        · show _ = Value.int .u32 ((rT1 z y v + rT2 v) % 4294967296)
          rw [HT1.out]
          unfold rT2
          first | rfl | (congr 1; omega)
        · rfl
        · rfl
        · rfl
        · show _ = Value.int .u32 ((v 3 + rT1 z y v) % 4294967296)
          rw [HT1.out]
        · rfl
        · rfl
        · rfl
      case measure => simp [intOf]; omega
    · obtain rfl : k = 64 := by omega
      obtain ⟨r, hr'⟩ : ∃ r, rds h x 64 = r := ⟨_, rfl⟩
      have HRR := Lib.hid hr'
      rw [hr']
      have h8 := ar8_lit r
      have hix : ∀ j, j < 8 → ∀ w, (Instr.index 39 (.agg #[.int .u32 (r 0), .int .u32 (r 1), .int .u32 (r 2), .int .u32 (r 3), .int .u32 (r 4), .int .u32 (r 5), .int .u32 (r 6), .int .u32 (r 7)]) (.int .i64 (j : Nat))).run Tryd.prog w = .ok (.int .u32 (r j)) w := fun j hj w => by
        rw [← h8]
        exact index_ar w Tryd.underlying39 (by kernel_rfl) (by kernel_rfl) hj
      have HIX := Lib.hid hix
      have H1 := Lib.hid (show CMx w V G tt tl (adD h r 0) x wr from by rw [adD_0]; exact H.out)
      clear hr' h8 hix H
      rw [show ((64 : Nat) : Int) = 64 from rfl]
      go_wp2_with fail
      go_loopw [112] (fun i wr => ∃ k : Nat, k ≤ 8 ∧ i = .int .i64 k ∧ Hid (CMx w V G tt tl (adD h r k) x wr)) (fun i _ => 8 - (intOf i).toNat)
      case atStart => exact ⟨0, by omega, rfl, H1⟩
      case round =>
        obtain ⟨k, hk, rfl, H⟩ := hrel
        clear H1
        have hk0 : (0 : Int) ≤ k := by omega
        by_cases hlt : k < 8
        · have hlt' : (k : Int) < 8 := by omega
          have HK := Lib.hid hlt
          have hi := HIX.out k hlt
          have HX2 := Lib.hid (And.intro (adD_next h r k) (adD_at h r k))
          obtain ⟨a, ha⟩ : ∃ a, h k = a := ⟨_, rfl⟩
          obtain ⟨b, hb⟩ : ∃ a, r k = a := ⟨_, rfl⟩
          rw [ha, hb] at HX2
          rw [hb] at hi
          clear ha hb
          go_wp2_with fail
          refine region_quiet_tail 9 (CMx w V G tt tl (adD h r k) x) (by kernel_rfl) (by kernel_rfl) H.out.drew ?_
          simp only [List.take_succ_cons, List.take_zero, List.drop_succ_cons, List.drop_zero]
          with_reducible refine q_val (.pointer (some ⟨V, 0, none⟩)) (by kernel_rfl) (fun _ _ => by kernel_rfl) ?_
          with_reducible refine q_val (.int .i64 (k : Nat)) (by kernel_rfl) (fun _ _ => by kernel_rfl) ?_
          with_reducible refine q_val (.pointer (some ⟨V, 0, none⟩)) (by kernel_rfl) (fun _ _ => by kernel_rfl) ?_
          with_reducible refine q_v (Instr.indexAt 43 (.pointer (some ⟨V, 0, none⟩)) (.int .i64 (k : Nat))) (.pointer (some ⟨V, k, none⟩)) (by kernel_rfl) (by kernel_rfl) (fun wz _ => ixH V k HK.out wz) ?_
          with_reducible refine q_load 38 (.tmp 119) (.pointer (some ⟨V, k, none⟩)) (.int .u32 a) rfl (by kernel_rfl) (by kernel_rfl) (fun _ c => c.ld k HK.out _ HX2.out.2) ?_
          with_reducible refine q_val (.int .u32 b) (by kernel_rfl) (fun _ _ => by kernel_rfl) ?_
          with_reducible refine q_val (.int .u32 (IntKind.u32.wrap (a + b))) (by kernel_rfl) (fun _ _ => by kernel_rfl) ?_
          with_reducible refine q_val (.pointer (some ⟨V, 0, none⟩)) (by kernel_rfl) (fun _ _ => by kernel_rfl) ?_
          with_reducible refine q_v (Instr.indexAt 43 (.pointer (some ⟨V, 0, none⟩)) (.int .i64 (k : Nat))) (.pointer (some ⟨V, k, none⟩)) (by kernel_rfl) (by kernel_rfl) (fun wz _ => ixH V k HK.out wz) ?_
          with_reducible refine wpQuiet_nil ?_
          intro w1 hCx
          simp only [Act.put, List.setIfInBounds_toArray, List.set_cons_succ, List.set_cons_zero]
          rw [wrap1]
          have co := hCx.cell k HK.out
          have fo := frozen_of_row w1 _ k _ _ hCx.row
          have hst := hCx.set k HK.out ((a + b) % 4294967296)
          rw [HX2.out.1] at hst
          have H2 := Lib.hid hst
          clear hCx hst H hi
          go_wp2_with fail
          go_roundw
          case rel => exact ⟨k + 1, by omega, by go_num, H2⟩
          case measure => simp [intOf]; omega
        · obtain rfl : k = 8 := by omega
          have hro := H.out.row
          rw [← HRR.out, ← HX.out, adD_8] at hro
          have HQ := Lib.hid (And.intro H.out.bt hro)
          clear hro H
          go_wp2_with fail
          go_end0
          exact ⟨rfl, HQ.out⟩
end Go.Proofs.YtkecehcnoihiiaaDoor
namespace Go.Proofs.YtkecehcnoihiiaaDoor
open Go.RowKit

/-- A list, or none, of n bytes. -/
def RdB (w : World) (a : Option Addr) (n : Nat) (f : Nat → Nat) : Prop := n = 0 ∨ ∃ b o, a = some ⟨b, o, none⟩ ∧ b < w.heap.size ∧ ∀ j, j < n → w.cell? ⟨b, o + j, none⟩ = some (.int .u8 (f j : Nat))
theorem RdB.below {w w' : World} {a : Option Addr} {n : Nat} {f : Nat → Nat} (h : RdB w a n f) (hb : Below w.heap.size w w') : RdB w' a n f := by
  rcases h with h | ⟨b, o, h1, h2, h3⟩
  · exact .inl h
  · exact .inr ⟨b, o, h1, Nat.lt_of_lt_of_le h2 hb.size, fun j hj => (hb.cell (p := ⟨b, o + j, none⟩) h2).trans (h3 j hj)⟩
theorem RdB.at_ {w : World} {a : Option Addr} {n : Nat} {f : Nat → Nat} (h : RdB w a n f) (cap k : Nat) (hk : k < n) : ∃ p : Addr, (∀ w, (Instr.indexAt 22 (.slice a n cap) (.int .i64 (k : Int))).run Tryd.prog w = .ok (.pointer (some p)) w) ∧ p.block < w.heap.size ∧ w.cell? p = some (.int .u8 (f k : Nat)) := by
  rcases h with rfl | ⟨b, o, rfl, h1, h2⟩
  · omega
  · refine ⟨⟨b, o + k, none⟩, fun w => ?_, h1, h2 k hk⟩
    have h0 : (0 : Int) ≤ k := by omega
    have h1 : (k : Int) < n := by omega
    go_simp
/-- Bytes among the arguments of a call. -/
def ArgB (w : World) (v : Value) (n : Nat) (f : Nat → Nat) : Prop := ∃ (a : Option Addr) (cap : Nat), v = .slice a n cap ∧ n ≤ cap ∧ (a = none → cap = 0) ∧ RdB w a n f
theorem ArgB.below {w w' : World} {v : Value} {n : Nat} {f : Nat → Nat} (h : ArgB w v n f) (hb : Below w.heap.size w w') : ArgB w' v n f := by
  obtain ⟨a, cap, h1, h2, h3, h4⟩ := h
  exact ⟨a, cap, h1, h2, h3, h4.below hb⟩
/-- Bytes as cells. -/
def p8 (f : Nat → Nat) (n : Nat) : List Value := (List.range n).map fun j => .int .u8 (f j : Nat)
theorem p8_len (f : Nat → Nat) (n : Nat) : (p8 f n).length = n := by simp [p8]
theorem p8_at (f : Nat → Nat) (n j : Nat) (h : j < n) : (p8 f n)[j]? = some (.int .u8 (f j : Nat)) := by simp [p8, h]
theorem p8_one (f : Nat → Nat) (n : Nat) : ∀ u ∈ p8 f n, u.oneCell' = true := fun u hu => by
  unfold p8 at hu
  rw [List.mem_map] at hu
  obtain ⟨j, -, rfl⟩ := hu
  rfl
theorem p8_congr {f g : Nat → Nat} {n : Nat} (h : ∀ j, j < n → f j = g j) : p8 f n = p8 g n := by
  unfold p8
  apply List.map_congr_left
  intro j hj
  rw [h j (by simpa using hj)]
theorem p8_next (f : Nat → Nat) (n : Nat) : p8 f n ++ [.int .u8 (f n : Nat)] = p8 f (n + 1) := by
  unfold p8
  rw [List.range_succ, List.map_append]
  rfl
theorem p8_snoc (f g : Nat → Nat) (n : Nat) (z : Int) (h : ∀ j, j < n → f j = g j) (hx : ((g n : Nat) : Int) = z) : p8 f n ++ [.int .u8 z] = p8 g (n + 1) := by
  rw [p8_congr h, ← hx, p8_next]
theorem p8_news {w : World} {a : Addr} {n : Nat} {f : Nat → Nat} (h : RdB w (some a) n f) : ∀ j u, (p8 f n)[j]? = some u → w.cell? (a.add j) = some u := fun j u hj => by
  have hj2 : j < n := by
    have := (List.getElem?_eq_some_iff.1 hj).1
    rwa [p8_len] at this
  rw [p8_at _ _ _ hj2] at hj
  cases hj
  rcases h with h | ⟨b, o, e, h1, h2⟩
  · omega
  · injection e with e
    subst e
    have h := h2 j hj2
    cases j with
    | zero => simpa [Addr.add] using h
    | succ j => simpa [Addr.add] using h
/-- Bytes of one's own. -/
def Own8 (base : Nat) (f : Nat → Nat) (n : Nat) (v : Value) (w : World) : Prop := w.ownsRow base 5 1 v n (p8 f n)
theorem own_rdb {w : World} {base n : Nat} {v : Value} {f : Nat → Nat} (h : w.ownsRow base 5 1 v n (p8 f n)) : ∃ a c, v = .slice a n c ∧ n ≤ c ∧ (a = none → c = 0) ∧ RdB w a n f := by
  rcases h.2 with ⟨h1, h2⟩ | ⟨g, cap, cur, h1, hb, hc, hnc, hm, hcs, ht⟩
  · subst h2
    exact ⟨none, 0, h1, Nat.le_refl _, fun _ => rfl, .inl rfl⟩
  · refine ⟨_, cap, h1, hnc, (fun h => nomatch h), .inr ⟨g, 0, rfl, (Array.getElem?_eq_some_iff.1 hc).1, fun j hj => ?_⟩⟩
    rw [Nat.zero_add, cell_of_row _ _ _ _ _ _ hc, ← p8_at f n j hj, ← ht]
    simp only [Nat.mul_one, List.getElem?_take, hj, if_true]
    simp
theorem own_arg {w : World} {base n : Nat} {v : Value} {f : Nat → Nat} (h : w.ownsRow base 5 1 v n (p8 f n)) : ArgB w v n f := by
  obtain ⟨a, c, h1, h2, h3, h4⟩ := own_rdb h
  exact ⟨a, c, h1, h2, h3, h4⟩
theorem info8 : (Tryd.prog.info? 5).map (fun i => (i.zero, i.size, i.bytes)) = some (some (.int .u8 0), 1, 1) := by kernel_rfl
theorem info_partsB {P : Program} {t : TypeId} {z : Value} {s b : Nat} (h : (P.info? t).map (fun i => (i.zero, i.size, i.bytes)) = some (some z, s, b)) : ∃ i, P.info? t = some i ∧ i.zero = some z ∧ i.size = s ∧ i.bytes = b := by
  cases hq : P.info? t with
  | none => rw [hq] at h; cases h
  | some i =>
    rw [hq] at h
    simp at h
    exact ⟨i, rfl, h.1, h.2.1, h.2.2⟩
/-- Bytes behind what is one's own. -/
theorem copy_own {w : World} {u v : Value} {k n base : Nat} {f g : Nat → Nat} (hu : w.ownsRow base 5 1 u k (p8 g k)) (hs : ∃ b c, u = .slice (some ⟨b, 0, none⟩) k c) (h : ArgB w v n f) (hn : ((k + n : Nat) : Int) ≤ 100000000) (hbs : base ≤ w.heap.size) (ty : TypeId) : ∃ v' w', (Builtin.append_ #[22, 22] ty #[u, v]).run Tryd.prog w = .ok v' w' ∧ w'.ownsRow base 5 1 v' (k + n) (p8 g k ++ p8 f n) ∧ (∃ b c, v' = .slice (some ⟨b, 0, none⟩) (k + n) c) ∧ w.grownBy w' u.ownBlock := by
  obtain ⟨i0, hi, hz0, hz1, hz2⟩ := info_partsB info8
  obtain ⟨a, cap, rfl, hc, hn0, hr⟩ := h
  cases a with
  | none =>
    have h0 := hn0 rfl
    subst h0
    obtain rfl : n = 0 := by omega
    refine ⟨_, _, run_append_owned_none (P := Tryd.prog) _ base 22 ty 5 i0 1 Tryd.underlying22 hi _ k _ hu, by simpa [p8] using hu, by simpa using hs, ⟨rfl, rfl, rfl, Nat.le_refl _, fun _ _ _ => rfl⟩⟩
  | some q =>
    obtain ⟨v', w', hr, hown, hg, hnil⟩ := run_append_own (P := Tryd.prog) (w := w) base 22 ty 5 i0 (.int .u8 0) 1 1 Tryd.underlying22 hi hz0 hz1 hz2 rfl (by decide) _ k _ hu q n cap (p8 f n) (by rw [p8_len, Nat.mul_one]) (p8_news hr) (p8_one f n) (by unfold maxLen; omega) (by omega) hbs
    refine ⟨v', w', hr, hown, ?_, hg⟩
    rcases hown.2 with ⟨h1, h2⟩ | ⟨g1, c1, cur, h1, -⟩
    · exfalso
      obtain ⟨b, c, rfl⟩ := hs
      have h3 : v' = .slice none 0 0 := by rw [h1]
      have h4 := (hnil.1 h3).1
      cases h4
    · exact ⟨g1, c1, h1⟩
end Go.Proofs.YtkecehcnoihiiaaDoor
namespace Go.Proofs.YtkecehcnoihiiaaDoor
open Go.RowKit

/-- What an operation's slot holds. -/
def slotVal (a : Act) (o : Oper) : Value := match o.dst with
  | some d => a.tmps.getD d undef
  | none => undef
def isDst (l : List Oper) (t : Nat) : Bool := l.any fun o => o.dst == some t
/-- Every operation's value put into its slot. -/
def putAll (f : Oper → Value) : List Oper → Act → Act
  | [], a => a
  | o :: l, a => putAll f l (a.put o.dst (f o))

theorem put_size (a : Act) (d : Option Tmp) (v : Value) : (a.put d v).tmps.size = a.tmps.size := by
  cases d <;> simp [Act.put]
theorem put_defers (a : Act) (d : Option Tmp) (v : Value) : (a.put d v).defers = a.defers := by
  cases d <;> rfl
theorem put_other (a : Act) (d : Option Tmp) (v : Value) (t : Nat) (h : d ≠ some t) : (a.put d v).tmps.getD t undef = a.tmps.getD t undef := by
  cases d with
  | none => rfl
  | some d =>
    have : d ≠ t := fun e => h (by rw [e])
    simp [Act.put, Array.getElem?_setIfInBounds_ne this]
theorem put_same (a : Act) (d : Nat) (v : Value) (h : d < a.tmps.size) : (a.put (some d) v).tmps.getD d undef = v := by
  simp [Act.put, h]

theorem putAll_size (f : Oper → Value) : ∀ (l : List Oper) (a : Act), (putAll f l a).tmps.size = a.tmps.size
  | [], _ => rfl
  | o :: l, a => by rw [putAll, putAll_size f l, put_size]
theorem putAll_defers (f : Oper → Value) : ∀ (l : List Oper) (a : Act), (putAll f l a).defers = a.defers
  | [], _ => rfl
  | o :: l, a => by rw [putAll, putAll_defers f l, put_defers]
theorem putAll_at (b : Act) : ∀ (l : List Oper) (a : Act) (t : Nat), t < a.tmps.size → (isDst l t = false → a.tmps.getD t undef = b.tmps.getD t undef) → (putAll (slotVal b) l a).tmps.getD t undef = b.tmps.getD t undef
  | [], a, t, _, h => h rfl
  | o :: l, a, t, ht, h => by
    rw [putAll]
    refine putAll_at b l _ t (by rw [put_size]; exact ht) (fun hl => ?_)
    by_cases e : o.dst = some t
    · rw [e, put_same _ _ _ ht]
      unfold slotVal
      rw [e]
    · rw [put_other _ _ _ _ e]
      exact h (by simp only [isDst, List.any_cons, Bool.or_eq_false_iff]; exact ⟨by simpa using e, hl⟩)
theorem put_back {a a0 : Act} {l : List Oper} (hs : a.tmps.size = a0.tmps.size) (hd : a.defers = a0.defers) (hk : ∀ t, isDst l t = false → a.tmps.getD t undef = a0.tmps.getD t undef) : a = putAll (slotVal a) l a0 := by
  have h1 := putAll_size (slotVal a) l a0
  have h2 := putAll_defers (slotVal a) l a0
  have h3 := fun t ht => putAll_at a l a0 t ht (fun h => (hk t h).symm)
  generalize putAll (slotVal a) l a0 = b at *
  obtain ⟨ta, da⟩ := a
  obtain ⟨tb, db⟩ := b
  simp only at *
  have : ta = tb := by
    apply Array.ext (by omega)
    intro i hi hj
    have := h3 i (by omega)
    simp [hi, hj] at this
    exact this.symm
  rw [this, hd, h2]

section
variable {P : Program} {ops : Array Oper} {Q : Exit → Act → World → Prop} {C : World → Prop} {φ : Nat → Value → World → Prop} {R : World → World → Prop} {a0 : Act}

/-- What is known where an operation comes up: the slots that the region doesn't write; those that it waits for. -/
def Known (ops : Array Oper) (φ : Nat → Value → World → Prop) (a0 : Act) (o : Oper) (a : Act) (w : World) : Prop :=
  (∀ t, isDst ops.toList t = false → a.tmps.getD t undef = a0.tmps.getD t undef) ∧ (∀ e ∈ o.after, Region.binds .any e = true → ∀ oj, ops[e.on]? = some oj → φ e.on (slotVal a oj) w)
/-- What one operation must do. -/
def Step (P : Program) (ops : Array Oper) (Q : Exit → Act → World → Prop) (C : World → Prop) (φ : Nat → Value → World → Prop) (R : World → World → Prop) (k : Nat) (o : Oper) (a : Act) (w : World) : Prop :=
  if Region.wanted o (yielded ops a.tmps) then o.wp P a w (fun a' w' => ∃ v, a' = a.put o.dst v ∧ C w' ∧ φ k v w' ∧ R w w' ∧ (o.dst = none → v = undef)) Q else φ k undef w
def Steps (P : Program) (ops : Array Oper) (Q : Exit → Act → World → Prop) (C : World → Prop) (φ : Nat → Value → World → Prop) (R : World → World → Prop) (a0 : Act) : Nat → List Oper → Prop
  | _, [] => True
  | k, o :: l => (∀ a w, C w → Known ops φ a0 o a w → Step P ops Q C φ R k o a w) ∧ Steps P ops Q C φ R a0 (k + 1) l
theorem Steps.at_ : ∀ {l : List Oper} {k : Nat}, Steps P ops Q C φ R a0 k l → ∀ (i : Nat) (o : Oper), l[i]? = some o → ∀ a w, C w → Known ops φ a0 o a w → Step P ops Q C φ R (k + i) o a w
  | [], _, _, i, o, hi => by simp at hi
  | o :: l, k, h, 0, o', hi => by simp at hi; subst hi; exact h.1
  | o :: l, k, h, i + 1, o', hi => by
    have := Steps.at_ h.2 i o' (by simpa using hi)
    rwa [show k + 1 + i = k + (i + 1) by omega] at this

def distinctB : List Oper → Bool
  | [] => true
  | o :: l => (match o.dst with | some d => !(isDst l d) | none => true) && distinctB l
theorem distinct_spec : ∀ {l : List Oper}, distinctB l = true → ∀ (i j : Nat) (oi oj : Oper) (d : Nat), l[i]? = some oi → l[j]? = some oj → i ≠ j → oi.dst = some d → oj.dst ≠ some d
  | [], _, i, _, _, _, _, hi, _, _, _ => by simp at hi
  | o :: l, h, i, j, oi, oj, d, hi, hj, hne, hd => by
    simp only [distinctB, Bool.and_eq_true] at h
    have out : ∀ (k : Nat) (ok : Oper) (e : Nat), l[k]? = some ok → o.dst = some e → ok.dst ≠ some e := fun k ok e hk he hok => by
      have h1 := h.1
      rw [he] at h1
      simp only [Bool.not_eq_true', isDst, List.any_eq_false] at h1
      exact h1 ok (List.mem_of_getElem? hk) (by simp [hok])
    match i, j, hi, hj with
    | 0, 0, _, _ => exact absurd rfl hne
    | 0, j + 1, hi, hj => simp at hi; subst hi; exact out j oj d (by simpa using hj) hd
    | i + 1, 0, hi, hj => simp at hj; subst hj; exact fun he => out i oi d (by simpa using hi) he hd
    | i + 1, j + 1, hi, hj => exact distinct_spec h.2 i j oi oj d (by simpa using hi) (by simpa using hj) (by omega) hd

def lexicalB (ops : Array Oper) : Bool := (List.range ops.size).all fun i => match ops[i]? with
  | some o => o.after.all fun e => decide (e.on < i)
  | none => true
def inB (ops : Array Oper) (n : Nat) : Bool := ops.toList.all fun o => match o.dst with
  | some d => decide (d < n)
  | none => true

theorem wpAny_inv (hdist : distinctB ops.toList = true) (hlex : lexicalB ops = true) (hin : inB ops a0.tmps.size = true)
    (hφ : ∀ i v w w', R w w' → φ i v w → φ i v w') (hst : Steps P ops Q C φ R a0 0 ops.toList)
    (hQ : ∀ (f : Oper → Value) w, C w → (∀ i o, ops[i]? = some o → φ i (f o) w) → Q .normal (putAll f ops.toList a0) w) :
    ∀ (fuel : Nat) (listed : Array Bool) (a : Act) (w : World), listed.size = ops.size → listed.toList.count false ≤ fuel → C w → a.tmps.size = a0.tmps.size → a.defers = a0.defers →
      (∀ t, isDst ops.toList t = false → a.tmps.getD t undef = a0.tmps.getD t undef) → (∀ i o, listed.getD i false = true → ops[i]? = some o → φ i (slotVal a o) w) → wpAny P .any ops Q fuel listed a w := by
  have done : ∀ (listed : Array Bool) (a : Act) (w : World), (∀ i, i < ops.size → listed.getD i false = true) → C w → a.tmps.size = a0.tmps.size → a.defers = a0.defers →
      (∀ t, isDst ops.toList t = false → a.tmps.getD t undef = a0.tmps.getD t undef) → (∀ i o, listed.getD i false = true → ops[i]? = some o → φ i (slotVal a o) w) → Q .normal a w := by
    intro listed a w hall hC hs hd hk hp
    rw [put_back hs hd hk]
    exact hQ _ w hC (fun i o ho => hp i o (hall i (Array.getElem?_eq_some_iff.1 ho).1) ho)
  intro fuel
  induction fuel with
  | zero =>
    intro listed a w hsz hc hC hs hd hk hp
    have hno : false ∉ listed.toList := List.count_eq_zero.1 (by omega)
    have hall : ∀ i, i < ops.size → listed.getD i false = true := fun i hi => by
      have hlt : i < listed.size := by omega
      have hm : listed[i] ∈ listed.toList := by simp
      simp only [Array.getD_eq_getD_getElem?, hlt, Array.getElem?_eq_getElem, Option.getD_some]
      cases h : listed[i] with
      | true => rfl
      | false => rw [h] at hm; exact absurd hm hno
    refine ⟨?_, done listed a w hall hC hs hd hk hp⟩
    rw [List.eq_nil_iff_forall_not_mem]
    intro j hj
    obtain ⟨h0, o, ho, -⟩ := mem_ready.1 hj
    have hlt := (Array.getElem?_eq_some_iff.1 ho).1
    have h1 := hall j hlt
    simp [show j < listed.size by omega] at h0 h1
    rw [h0] at h1
    cases h1
  | succ fuel ih =>
    intro listed a w hsz hc hC hs hd hk hp
    refine ⟨fun hr => ?_, fun i hi => ?_⟩
    · refine done listed a w ?_ hC hs hd hk hp
      -- the least that isn't listed would be ready
      intro i
      induction i using Nat.strongRecOn with
      | _ i ihi =>
        intro hi
        cases h : listed.getD i false with
        | true => rfl
        | false =>
          have ho : ops[i]? = some ops[i] := Array.getElem?_eq_getElem hi
          have : i ∈ Region.ready .any ops listed := mem_ready.2 ⟨by simpa [show i < listed.size by omega] using h, ops[i], ho, fun e he _ => by
            have hl := hlex
            unfold lexicalB at hl
            rw [List.all_eq_true] at hl
            have := hl i (by simpa using hi)
            rw [ho] at this
            simp only [Array.all_eq_true_iff_forall_mem, decide_eq_true_eq] at this
            have hlt := this e he
            exact ihi e.on hlt (by omega)⟩
          rw [hr] at this
          cases this
    · obtain ⟨h0, o, ho, hall⟩ := mem_ready.1 hi
      have hlt : i < ops.size := (Array.getElem?_eq_some_iff.1 ho).1
      have hl' : ops.toList[i]? = some o := by simpa using ho
      have hstep := hst.at_ i o hl' a w hC ⟨hk, fun e he hb oj hj => hp e.on oj (hall e he hb) hj⟩
      rw [Nat.zero_add] at hstep
      have go : ∀ (v : Value) (w' : World), C w' → φ i v w' → (∀ j u, φ j u w → φ j u w') → (o.dst = none → v = undef) → wpAny P .any ops Q fuel (listed.setIfInBounds i true) (a.put o.dst v) w' := by
        intro v w' hC' hv hm hu
        refine ih _ _ _ (by simpa using hsz) ?_ hC' (by rw [put_size]; exact hs) (by rw [put_defers]; exact hd) ?_ ?_
        · have hil : i < listed.size := by omega
          have e0 : listed[i] = false := by simpa [hil] using h0
          rw [Array.toList_setIfInBounds, List.count_set (by simpa using hil)]
          have : listed.toList[i]'(by simpa using hil) = false := by simpa using e0
          simp only [this]
          simp
          have hpos : 0 < listed.toList.count false := List.count_pos_iff.2 (by rw [← e0]; simp)
          simp at hpos
          simp at hc
          omega
        · intro t ht
          have hne : o.dst ≠ some t := fun e => by
            simp only [isDst, List.any_eq_false] at ht
            exact ht o (List.mem_of_getElem? hl') (by simp [e])
          rw [put_other _ _ _ _ hne]
          exact hk t ht
        · intro j oj hj hoj
          by_cases e : i = j
          · subst e
            have : oj = o := Option.some.inj (hoj.symm.trans ho)
            subst this
            have : slotVal (a.put oj.dst v) oj = v := by
              unfold slotVal
              cases hd' : oj.dst with
              | none => exact (hu hd').symm
              | some d =>
                have hin' := hin
                unfold inB at hin'
                rw [List.all_eq_true] at hin'
                have hdl : d < a0.tmps.size := by
                  have h := hin' oj (List.mem_of_getElem? hl')
                  rw [hd'] at h
                  exact of_decide_eq_true h
                exact put_same _ _ _ (by rw [hs]; exact hdl)
            rw [this]; exact hv
          · rw [getD_set_ne false e] at hj
            have : slotVal (a.put o.dst v) oj = slotVal a oj := by
              unfold slotVal
              cases hd' : oj.dst with
              | none => rfl
              | some d =>
                exact put_other _ _ _ _ (fun he => distinct_spec hdist i j o oj d hl' (by simpa using hoj) e he hd')
            rw [this]
            exact hm _ _ (hp j oj hj hoj)
      unfold wpOp
      rw [ho]
      simp only
      unfold Step at hstep
      split
      · rename_i hw
        rw [if_pos hw] at hstep
        refine .inl (Oper.wp_mono ?_ hstep)
        rintro a' w' ⟨v, rfl, hC', hv, hR, hu⟩
        exact go v w' hC' hv (fun j u h => hφ j u w w' hR h) hu
      · rename_i hw
        rw [if_neg hw] at hstep
        exact go undef w hC hstep (fun j u h => h) (fun _ => rfl)

/-- THE LAW. -/
theorem region_inv {id : Nat} {l : List Oper} {w : World} (C : World → Prop) (φ : Nat → Value → World → Prop) (R : World → World → Prop) (hm : P.follows .mixedOrders = true) (hB : (distinctB l && lexicalB l.toArray && inB l.toArray a0.tmps.size) = true) (hC : C w.drew)
    (hφ : ∀ i v w w', R w w' → φ i v w → φ i v w') (hst : Steps P l.toArray Q C φ R a0 0 l)
    (hQ : ∀ (f : Oper → Value) w, C w → (∀ i o, l[i]? = some o → φ i (f o) w) → Q .normal (putAll f l a0) w) : (Code.region id l.toArray true).wp P Q a0 w := by
  simp only [Bool.and_eq_true] at hB
  refine wp_region_any hm (wpAny_inv (C := C) (φ := φ) (R := R) (a0 := a0) hB.1.1 hB.1.2 hB.2 hφ hst (fun f w hC h => hQ f w hC (fun i o ho => h i o (by simpa using ho))) _ _ _ w.drew (by simp) (by simp) hC rfl rfl (fun _ _ => rfl) ?_)
  intro i o hi
  simp at hi
  rcases Nat.lt_or_ge i l.length with h | h
  · simp [h] at hi
  · simp [Nat.not_lt.2 h] at hi

/-! What each kind of operation must do. -/
theorem st_val {k : Nat} {o : Oper} {a : Act} {w : World} (v : Value) (hw : Region.wanted o (yielded ops a.tmps) = true) (hd : o.dst = none → v = undef) (hr : (execOp a.eval o).run P w = .ok (.value v) w) (hC : C w) (hv : φ k v w) (hR : R w w) : Step P ops Q C φ R k o a w := by
  unfold Step
  rw [if_pos hw]
  unfold Oper.wp
  rw [hr]
  exact ⟨v, rfl, hC, hv, hR, hd⟩
theorem st_skip {k : Nat} {o : Oper} {a : Act} {w : World} (hw : Region.wanted o (yielded ops a.tmps) = false) (hv : φ k undef w) : Step P ops Q C φ R k o a w := by
  unfold Step
  rw [if_neg (by rw [hw]; exact Bool.false_ne_true)]
  exact hv
theorem st_load {k : Nat} {o : Oper} {a : Act} {w : World} (T : TypeId) (x : Operand) (p v : Value) (ho : o.op = .load T x) (hw : Region.wanted o (yielded ops a.tmps) = true) (hd : o.dst = none → v = undef) (hp : a.eval x = p)
    (hr : (Instr.loadAt T p).run P w = .ok v w) (hC : C w) (hv : φ k v w) (hR : R w w) : Step P ops Q C φ R k o a w :=
  st_val v hw hd (by
    unfold execOp
    rw [ho]
    simp only [hp, Sem.run_bind, hr, Result.andThen_ok, Sem.run_pure]) hC hv hR
theorem st_call {k : Nat} {o : Oper} {a : Act} {w : World} (f : FuncId) (args : Array Value) (hw : Region.wanted o (yielded ops a.tmps) = true) (hd : ∃ d, o.dst = some d) (he : (execOp a.eval o).run P w = .ok (.enter f args) w)
    (hc : Calls P f args w fun e w' => ∃ v, e = .returned v ∧ C w' ∧ φ k v w' ∧ R w w') : Step P ops Q C φ R k o a w := by
  unfold Step
  rw [if_pos hw]
  unfold Oper.wp
  rw [he]
  refine Calls.mono hc ?_
  rintro e w' ⟨v, rfl, h1, h2, h3⟩
  exact ⟨v, rfl, h1, h2, h3, fun h => by obtain ⟨d, hd⟩ := hd; rw [hd] at h; cases h⟩
theorem st_store {k : Nat} {o : Oper} {a : Act} {w w' : World} (hw : Region.wanted o (yielded ops a.tmps) = true) (hr : (execOp a.eval o).run P w = .ok .skip w') (hC : C w') (hv : φ k undef w') (hR : R w w') : Step P ops Q C φ R k o a w := by
  unfold Step
  rw [if_pos hw]
  unfold Oper.wp
  rw [hr]
  exact ⟨undef, rfl, hC, hv, hR, fun _ => rfl⟩
end
end Go.Proofs.YtkecehcnoihiiaaDoor
namespace Go.Proofs.YtkecehcnoihiiaaDoor
open Go.RowKit

def slots (a : Act) (t : Nat) : Value := a.tmps.getD t undef

theorem getD_set_same {listed : Array Bool} {i : Nat} (h : i < listed.size) : (listed.setIfInBounds i true).getD i false = true := by simp [h]

section
variable {P : Program} {ops : Array Oper} {Q : Exit → Act → World → Prop} {C : World → Prop} {φ : Nat → (Nat → Value) → World → Prop} {R : World → World → Prop} {a0 : Act}

/-- What is known where an operation comes up. -/
def KnownT (ops : Array Oper) (φ : Nat → (Nat → Value) → World → Prop) (a0 : Act) (o : Oper) (a : Act) (w : World) : Prop :=
  (∀ t, isDst ops.toList t = false → a.tmps.getD t undef = a0.tmps.getD t undef) ∧ (∀ e ∈ o.after, Region.binds .any e = true → ∀ oj, ops[e.on]? = some oj → φ e.on (slots a) w)
def StepT (P : Program) (ops : Array Oper) (Q : Exit → Act → World → Prop) (C : World → Prop) (φ : Nat → (Nat → Value) → World → Prop) (R : World → World → Prop) (k : Nat) (o : Oper) (a : Act) (w : World) : Prop :=
  if Region.wanted o (yielded ops a.tmps) then o.wp P a w (fun a' w' => ∃ v, a' = a.put o.dst v ∧ C w' ∧ φ k (slots (a.put o.dst v)) w' ∧ R w w') Q else φ k (slots (a.put o.dst undef)) w
def StepsT (P : Program) (ops : Array Oper) (Q : Exit → Act → World → Prop) (C : World → Prop) (φ : Nat → (Nat → Value) → World → Prop) (R : World → World → Prop) (a0 : Act) : Nat → List Oper → Prop
  | _, [] => True
  | k, o :: l => (∀ a w, C w → a.tmps.size = a0.tmps.size → KnownT ops φ a0 o a w → StepT P ops Q C φ R k o a w) ∧ StepsT P ops Q C φ R a0 (k + 1) l
theorem StepsT.at_ : ∀ {l : List Oper} {k : Nat}, StepsT P ops Q C φ R a0 k l → ∀ (i : Nat) (o : Oper), l[i]? = some o → ∀ a w, C w → a.tmps.size = a0.tmps.size → KnownT ops φ a0 o a w → StepT P ops Q C φ R (k + i) o a w
  | [], _, _, i, o, hi => by simp at hi
  | o :: l, k, h, 0, o', hi => by simp at hi; subst hi; exact h.1
  | o :: l, k, h, i + 1, o', hi => by
    have := StepsT.at_ h.2 i o' (by simpa using hi)
    rwa [show k + 1 + i = k + (i + 1) by omega] at this

/-- There is a rank by which each operation stands behind those that it waits for. -/
def rankB (ops : Array Oper) (rk : Nat → Nat) : Bool := (List.range ops.size).all fun i => match ops[i]? with
  | some o => o.after.all fun e => !Region.binds .any e || decide (rk e.on < rk i)
  | none => true

def insideB (ops : Array Oper) : Bool := ops.all fun o => o.after.all fun e => decide (e.on < ops.size)
theorem inside_spec (h : insideB ops = true) (i : Nat) (o : Oper) (ho : ops[i]? = some o) (e : Edge) (he : e ∈ o.after) : e.on < ops.size := by
  unfold insideB at h
  simp only [Array.all_eq_true_iff_forall_mem, decide_eq_true_eq] at h
  exact h o (Array.mem_of_getElem? ho) e he

/-- Each operation's slots are its own and those of operations that it waits for. -/
def ownB (ops : Array Oper) (rd : Nat → List Nat) : Bool := (List.range ops.size).all fun i => match ops[i]? with
  | some o => (rd i).all fun t => o.dst == some t || !isDst ops.toList t || o.after.any fun e => Region.binds .any e && (match ops[e.on]? with | some oj => oj.dst == some t | none => false)
  | none => true
theorem own_spec {rd : Nat → List Nat} (h : ownB ops rd = true) {i : Nat} {o : Oper} (ho : ops[i]? = some o) {t : Nat} (ht : t ∈ rd i) :
    o.dst = some t ∨ isDst ops.toList t = false ∨ ∃ e ∈ o.after, Region.binds .any e = true ∧ ∃ oj, ops[e.on]? = some oj ∧ oj.dst = some t := by
  unfold ownB at h
  rw [List.all_eq_true] at h
  have h1 := h i (by simpa using (Array.getElem?_eq_some_iff.1 ho).1)
  rw [ho] at h1
  simp only [List.all_eq_true] at h1
  have h2 := h1 t ht
  simp only [Bool.or_eq_true, beq_iff_eq, Bool.not_eq_true'] at h2
  rcases h2 with (h2 | h2) | h2
  · exact .inl h2
  · exact .inr (.inl h2)
  · refine .inr (.inr ?_)
    rw [Array.any_eq_true] at h2
    obtain ⟨k, hk, h3⟩ := h2
    have he : o.after[k] ∈ o.after := Array.getElem_mem hk
    generalize o.after[k] = e at *
    rw [Bool.and_eq_true] at h3
    refine ⟨e, he, h3.1, ?_⟩
    have h4 := h3.2
    cases hj : ops[e.on]? with
    | none => rw [hj] at h4; cases h4
    | some oj => rw [hj] at h4; exact ⟨oj, rfl, by simpa using h4⟩

theorem wpAny_tie (rd : Nat → List Nat) (rk : Nat → Nat) (hdist : distinctB ops.toList = true) (hlex : rankB ops rk = true) (hon : ∀ (i : Nat) (o : Oper), ops[i]? = some o → ∀ e ∈ o.after, e.on < ops.size) (hown : ownB ops rd = true)
    (hrd : ∀ i s s' w, (∀ t ∈ rd i, s t = s' t) → φ i s w → φ i s' w)
    (hφ : ∀ i v w w', R w w' → φ i v w → φ i v w') (hst : StepsT P ops Q C φ R a0 0 ops.toList)
    (hQ : ∀ (f : Oper → Value) w, C w → (∀ i o, ops[i]? = some o → φ i (slots (putAll f ops.toList a0)) w) → Q .normal (putAll f ops.toList a0) w) :
    ∀ (fuel : Nat) (listed : Array Bool) (a : Act) (w : World), listed.size = ops.size → listed.toList.count false ≤ fuel → C w → a.tmps.size = a0.tmps.size → a.defers = a0.defers →
      (∀ t, isDst ops.toList t = false → a.tmps.getD t undef = a0.tmps.getD t undef) → (∀ i o, listed.getD i false = true → ops[i]? = some o → φ i (slots a) w ∧ ∀ e ∈ o.after, Region.binds .any e = true → listed.getD e.on false = true) → wpAny P .any ops Q fuel listed a w := by
  have done : ∀ (listed : Array Bool) (a : Act) (w : World), (∀ i, i < ops.size → listed.getD i false = true) → C w → a.tmps.size = a0.tmps.size → a.defers = a0.defers →
      (∀ t, isDst ops.toList t = false → a.tmps.getD t undef = a0.tmps.getD t undef) → (∀ i o, listed.getD i false = true → ops[i]? = some o → φ i (slots a) w ∧ ∀ e ∈ o.after, Region.binds .any e = true → listed.getD e.on false = true) → Q .normal a w := by
    intro listed a w hall hC hs hd hk hp
    have hb := put_back hs hd hk
    rw [hb]
    exact hQ _ w hC (fun i o ho => by rw [← hb]; exact (hp i o (hall i (Array.getElem?_eq_some_iff.1 ho).1) ho).1)
  intro fuel
  induction fuel with
  | zero =>
    intro listed a w hsz hc hC hs hd hk hp
    have hno : false ∉ listed.toList := List.count_eq_zero.1 (by omega)
    have hall : ∀ i, i < ops.size → listed.getD i false = true := fun i hi => by
      have hlt : i < listed.size := by omega
      have hm : listed[i] ∈ listed.toList := by simp
      simp only [Array.getD_eq_getD_getElem?, hlt, Array.getElem?_eq_getElem, Option.getD_some]
      cases h : listed[i] with
      | true => rfl
      | false => rw [h] at hm; exact absurd hm hno
    refine ⟨?_, done listed a w hall hC hs hd hk hp⟩
    rw [List.eq_nil_iff_forall_not_mem]
    intro j hj
    obtain ⟨h0, o, ho, -⟩ := mem_ready.1 hj
    have hlt := (Array.getElem?_eq_some_iff.1 ho).1
    have h1 := hall j hlt
    simp [show j < listed.size by omega] at h0 h1
    rw [h0] at h1
    cases h1
  | succ fuel ih =>
    intro listed a w hsz hc hC hs hd hk hp
    refine ⟨fun hr => ?_, fun i hi => ?_⟩
    · refine done listed a w ?_ hC hs hd hk hp
      -- the least that isn't listed would be ready
      have key : ∀ r i, rk i < r → i < ops.size → listed.getD i false = true := by
        intro r
        induction r with
        | zero => intro i h; omega
        | succ r ihr =>
          intro i hri hi
          cases h : listed.getD i false with
          | true => rfl
          | false =>
            have ho : ops[i]? = some ops[i] := Array.getElem?_eq_getElem hi
            have : i ∈ Region.ready .any ops listed := mem_ready.2 ⟨by simpa [show i < listed.size by omega] using h, ops[i], ho, fun e he hb => by
              have hl := hlex
              unfold rankB at hl
              rw [List.all_eq_true] at hl
              have := hl i (by simpa using hi)
              rw [ho] at this
              simp only [Array.all_eq_true_iff_forall_mem] at this
              have hlt := this e he
              rw [hb] at hlt
              simp at hlt
              exact ihr e.on (by omega) (hon i _ ho e he)⟩
            rw [hr] at this
            cases this
      exact fun i hi => key (rk i + 1) i (by omega) hi
    · obtain ⟨h0, o, ho, hall⟩ := mem_ready.1 hi
      have hlt : i < ops.size := (Array.getElem?_eq_some_iff.1 ho).1
      have hl' : ops.toList[i]? = some o := by simpa using ho
      have hstep := hst.at_ i o hl' a w hC hs ⟨hk, fun e he hb oj hj => (hp e.on oj (by have := hall e he hb; simpa using this) hj).1⟩
      rw [Nat.zero_add] at hstep
      have go : ∀ (v : Value) (w' : World), C w' → φ i (slots (a.put o.dst v)) w' → (∀ j u, φ j u w → φ j u w') → wpAny P .any ops Q fuel (listed.setIfInBounds i true) (a.put o.dst v) w' := by
        intro v w' hC' hv hm
        refine ih _ _ _ (by simpa using hsz) ?_ hC' (by rw [put_size]; exact hs) (by rw [put_defers]; exact hd) ?_ ?_
        · have hil : i < listed.size := by omega
          have e0 : listed[i] = false := by simpa [hil] using h0
          rw [Array.toList_setIfInBounds, List.count_set (by simpa using hil)]
          have : listed.toList[i]'(by simpa using hil) = false := by simpa using e0
          simp only [this]
          simp
          have hpos : 0 < listed.toList.count false := List.count_pos_iff.2 (by rw [← e0]; simp)
          simp at hpos
          simp at hc
          omega
        · intro t ht
          have hne : o.dst ≠ some t := fun e => by
            simp only [isDst, List.any_eq_false] at ht
            exact ht o (List.mem_of_getElem? hl') (by simp [e])
          rw [put_other _ _ _ _ hne]
          exact hk t ht
        · intro j oj hj hoj
          by_cases e : i = j
          · subst e
            have : oj = o := Option.some.inj (hoj.symm.trans ho)
            subst this
            refine ⟨hv, fun e he hb => ?_⟩
            have h1 := hall e he hb
            by_cases q : i = e.on
            · rw [← q]; exact getD_set_same (by omega)
            · rw [getD_set_ne false q]; simpa using h1
          · rw [getD_set_ne false e] at hj
            obtain ⟨h1, h2⟩ := hp j oj hj hoj
            refine ⟨hm _ _ (hrd j _ _ w (fun t ht => ?_) h1), fun e' he hb => ?_⟩
            · have hne : o.dst ≠ some t := fun hd' => by
                rcases own_spec hown hoj ht with h3 | h3 | ⟨e', he, hb, ok, hok, hkd⟩
                · exact distinct_spec hdist i j o oj t hl' (by simpa using hoj) e hd' h3
                · simp only [isDst, List.any_eq_false] at h3
                  exact h3 o (List.mem_of_getElem? hl') (by simp [hd'])
                · have h4 := h2 e' he hb
                  have h5 : i ≠ e'.on := fun q => by rw [← q, getD_both h0] at h4; cases h4
                  exact distinct_spec hdist i e'.on o ok t hl' (by simpa using hok) h5 hd' hkd
              exact (put_other _ _ _ _ hne).symm
            · by_cases q : i = e'.on
              · rw [← q]; exact getD_set_same (by omega)
              · rw [getD_set_ne false q]; exact h2 e' he hb
      unfold wpOp
      rw [ho]
      simp only
      unfold StepT at hstep
      split
      · rename_i hw
        rw [if_pos hw] at hstep
        refine .inl (Oper.wp_mono ?_ hstep)
        rintro a' w' ⟨v, rfl, hC', hv, hR⟩
        exact go v w' hC' hv (fun j u h => hφ j u w w' hR h)
      · rename_i hw
        rw [if_neg hw] at hstep
        exact go undef w hC hstep (fun j u h => h)

/-- THE LAW. -/
theorem region_tie {id : Nat} {l : List Oper} {w : World} (C : World → Prop) (φ : Nat → (Nat → Value) → World → Prop) (R : World → World → Prop) (rd : Nat → List Nat) (rk : Nat → Nat) (hm : P.follows .mixedOrders = true)
    (hB : (distinctB l && rankB l.toArray rk && ownB l.toArray rd && insideB l.toArray) = true) (hC : C w.drew)
    (hrd : ∀ i s s' w, (∀ t ∈ rd i, s t = s' t) → φ i s w → φ i s' w) (hφ : ∀ i v w w', R w w' → φ i v w → φ i v w') (hst : StepsT P l.toArray Q C φ R a0 0 l)
    (hQ : ∀ (f : Oper → Value) w, C w → (∀ i o, l[i]? = some o → φ i (slots (putAll f l a0)) w) → Q .normal (putAll f l a0) w) : (Code.region id l.toArray true).wp P Q a0 w := by
  simp only [Bool.and_eq_true] at hB
  refine wp_region_any hm (wpAny_tie (C := C) (φ := φ) (R := R) (a0 := a0) rd rk hB.1.1.1 hB.1.1.2 (inside_spec hB.2) hB.1.2 hrd hφ hst (fun f w hC h => hQ f w hC (fun i o ho => h i o (by simpa using ho))) _ _ _ w.drew (by simp) (by simp) hC rfl rfl (fun _ _ => rfl) ?_)
  intro i o hi
  simp at hi
  rcases Nat.lt_or_ge i l.length with h | h
  · simp [h] at hi
  · simp [Nat.not_lt.2 h] at hi

/-! What each kind of operation must do. -/
theorem tt_val {k : Nat} {o : Oper} {a : Act} {w : World} (v : Value) (hw : Region.wanted o (yielded ops a.tmps) = true) (hr : (execOp a.eval o).run P w = .ok (.value v) w) (hC : C w) (hv : φ k (slots (a.put o.dst v)) w) (hR : R w w) : StepT P ops Q C φ R k o a w := by
  unfold StepT
  rw [if_pos hw]
  unfold Oper.wp
  rw [hr]
  exact ⟨v, rfl, hC, hv, hR⟩
theorem tt_skip {k : Nat} {o : Oper} {a : Act} {w : World} (hw : Region.wanted o (yielded ops a.tmps) = false) (hv : φ k (slots (a.put o.dst undef)) w) : StepT P ops Q C φ R k o a w := by
  unfold StepT
  rw [if_neg (by rw [hw]; exact Bool.false_ne_true)]
  exact hv
theorem tt_new {k : Nat} {o : Oper} {a : Act} {w w' : World} (v : Value) (hw : Region.wanted o (yielded ops a.tmps) = true) (hr : (execOp a.eval o).run P w = .ok (.value v) w') (hC : C w') (hv : φ k (slots (a.put o.dst v)) w') (hR : R w w') : StepT P ops Q C φ R k o a w := by
  unfold StepT
  rw [if_pos hw]
  unfold Oper.wp
  rw [hr]
  exact ⟨v, rfl, hC, hv, hR⟩
theorem tt_v {k : Nat} {o : Oper} {a : Act} {w w' : World} (s : Sem Value) (v : Value) (hw : Region.wanted o (yielded ops a.tmps) = true) (ho : execOp a.eval o = (do let x ← s; pure (.value x))) (hr : s.run P w = .ok v w') (hC : C w') (hv : φ k (slots (a.put o.dst v)) w') (hR : R w w') : StepT P ops Q C φ R k o a w :=
  tt_new v hw (by rw [ho]; simp only [Sem.run_bind, hr, Result.andThen_ok, Sem.run_pure]) hC hv hR
theorem slots_put (a : Act) (d : Nat) (v : Value) (h : d < a.tmps.size) : slots (a.put (some d) v) d = v := put_same a d v h
theorem slots_other (a : Act) (d t : Nat) (v : Value) (h : d ≠ t) : slots (a.put (some d) v) t = slots a t := put_other a (some d) v t (by simpa using h)
theorem tt_load {k : Nat} {o : Oper} {a : Act} {w : World} (T : TypeId) (x : Operand) (p v : Value) (ho : o.op = .load T x) (hw : Region.wanted o (yielded ops a.tmps) = true) (hp : a.eval x = p)
    (hr : (Instr.loadAt T p).run P w = .ok v w) (hC : C w) (hv : φ k (slots (a.put o.dst v)) w) (hR : R w w) : StepT P ops Q C φ R k o a w :=
  tt_val v hw (by
    unfold execOp
    rw [ho]
    simp only [hp, Sem.run_bind, hr, Result.andThen_ok, Sem.run_pure]) hC hv hR
theorem tt_call {k : Nat} {o : Oper} {a : Act} {w : World} (f : FuncId) (args : Array Value) (hw : Region.wanted o (yielded ops a.tmps) = true) (he : (execOp a.eval o).run P w = .ok (.enter f args) w)
    (hc : Calls P f args w fun e w' => ∃ v, e = .returned v ∧ C w' ∧ φ k (slots (a.put o.dst v)) w' ∧ R w w') : StepT P ops Q C φ R k o a w := by
  unfold StepT
  rw [if_pos hw]
  unfold Oper.wp
  rw [he]
  refine Calls.mono hc ?_
  rintro e w' ⟨v, rfl, h1, h2, h3⟩
  exact ⟨v, rfl, h1, h2, h3⟩
theorem tt_store {k : Nat} {o : Oper} {a : Act} {w w' : World} (hw : Region.wanted o (yielded ops a.tmps) = true) (hd : o.dst = none) (hr : (execOp a.eval o).run P w = .ok .skip w') (hC : C w') (hv : φ k (slots a) w') (hR : R w w') : StepT P ops Q C φ R k o a w := by
  unfold StepT
  rw [if_pos hw]
  unfold Oper.wp
  rw [hr]
  refine ⟨undef, by rw [hd], hC, ?_, hR⟩
  rw [hd]; exact hv
end

/-- What a region's operations leave as it was: the blocks below h, the others' sizes and types; and who holds what is to be laid (F says what, by its type) goes on to. -/
structure RT (h : Nat) (F : TypeId → Array Value) (w w' : World) : Prop where
  size : w.heap.size ≤ w'.heap.size
  below : ∀ (k : Nat), k < h → w'.heap[k]? = w.heap[k]?
  shape : ∀ (k : Nat) (cs : Array Value) (T : TypeId) (fz : Nat × Nat), w.heap[k]? = some (.cells cs T fz) → ∃ cs' : Array Value, w'.heap[k]? = some (.cells cs' T fz) ∧ cs'.size = cs.size
  keep : ∀ (k : Nat) (T : TypeId) (fz : Nat × Nat), w.heap[k]? = some (.cells (F T) T fz) → w'.heap[k]? = some (.cells (F T) T fz)
theorem RT.refl (h : Nat) (F : TypeId → Array Value) (w : World) : RT h F w w := ⟨Nat.le_refl _, fun _ _ => rfl, fun _ cs _ _ e => ⟨cs, e, rfl⟩, fun _ _ _ e => e⟩
theorem RT.of {h : Nat} {F : TypeId → Array Value} {w w' : World} (hh : h ≤ w.heap.size) (hb : Below w.heap.size w w') : RT h F w w' := by
  have lt : ∀ {k : Nat} {o : Obj}, w.heap[k]? = some o → k < w.heap.size := fun e => (Array.getElem?_eq_some_iff.1 e).1
  exact ⟨hb.size, fun k hk => hb.block k (by omega), fun k cs T fz e => ⟨cs, (hb.block k (lt e)).trans e, rfl⟩, fun _ _ _ e => (hb.block _ (lt e)).trans e⟩
theorem RT.row {h g : Nat} {F : TypeId → Array Value} {w : World} {cs : Array Value} {T : TypeId} {fz : Nat × Nat} (hg : h ≤ g) (e : w.heap[g]? = some (.cells cs T fz)) (hs : cs.size = (F T).size) : RT h F w (w.setRow g (F T)) := by
  refine ⟨Nat.le_of_eq (setRow_size w g (F T)).symm, fun k hk => setRow_other _ _ _ _ (by omega), fun k cs' T' fz' e' => ?_, fun k T' fz' e' => ?_⟩
  · by_cases q : k = g
    · subst q
      rw [e] at e'
      cases e'
      exact ⟨_, setRow_heap _ _ _ _ _ _ e, hs.symm⟩
    · exact ⟨cs', (setRow_other _ _ _ _ q).trans e', rfl⟩
  · by_cases q : k = g
    · subst q
      rw [e] at e'
      cases e'
      exact setRow_heap _ _ _ _ _ _ e
    · exact (setRow_other _ _ _ _ q).trans e'
end Go.Proofs.YtkecehcnoihiiaaDoor

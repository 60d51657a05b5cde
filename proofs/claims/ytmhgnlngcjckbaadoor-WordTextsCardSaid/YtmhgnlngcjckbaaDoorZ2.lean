/- What word.shiftDown comes to: the walk. (With it, merged: Bytes · Dg · Sum · ShiftNum · Shl · Tail · Word · Prod · Down.) -/
import Derived.Test.YtmhgnlngcjckbaaDoorZ1
import Derived.Laws.Rows
import Derived.Laws.Tables
import Derived.Laws.CopyOwn
import Derived.Laws.Bits64b
import Derived.Laws.OwnMore
import Derived.Deep.AppendLies
import Derived.StillTailTactics
import Derived.StillTail
import Derived.Deep.Quiet
import Derived.BigQuiet
import Derived.WalkSmall
import Derived.OwnWalk
namespace Go.Proofs.YtmhgnlngcjckbaaDoor
open Go.RowKit

/-- Part p of a word. -/
def pN (x p : Nat) : Nat := x % 115792089237316195423570985008687907853269984665640564039457584007913129639936 / 2 ^ (64 * p) % 18446744073709551616
theorem pN_le (x p : Nat) : pN x p < 18446744073709551616 := by unfold pN; omega
/-- The byte of a word at n, 0 the highest. -/
def bt (x n : Nat) : Nat := x % 115792089237316195423570985008687907853269984665640564039457584007913129639936 / 256 ^ (31 - n) % 256
theorem bt_le (x n : Nat) : bt x n ≤ 255 := by unfold bt; omega

theorem cut_mod (Y s : Nat) (hs : s ≤ 56) : Y % 18446744073709551616 / 2 ^ s % 256 = Y / 2 ^ s % 256 := by
  have e : 18446744073709551616 = 2 ^ s * 2 ^ (64 - s) := by rw [← Nat.pow_add, show s + (64 - s) = 64 by omega]
  rw [e, Nat.mod_mul_right_div_self, Nat.mod_mod_of_dvd]
  have : (256 : Nat) = 2 ^ 8 := by rfl
  rw [this]
  exact Nat.pow_dvd_pow 2 (by omega)

theorem bt_of (x k p s : Nat) (_hk : k < 32) (hp : (31 - k) / 8 = p) (hs : (31 - k) % 8 * 8 = s) : pN x p / 2 ^ s % 256 = bt x k := by
  subst hp hs
  unfold pN bt
  rw [cut_mod _ _ (by omega), Nat.div_div_eq_div_mul, ← Nat.pow_add, show (256 : Nat) = 2 ^ 8 by rfl, ← Nat.pow_mul, show 64 * ((31 - k) / 8) + (31 - k) % 8 * 8 = 8 * (31 - k) by omega]

/-- The row of bytes, of which k have been written. -/
def brow (f : Nat → Nat) (k : Nat) : Array Value := ((List.range 32).map fun j => Value.int .u8 ((if j < k then f j else 0 : Nat) : Int)).toArray
theorem brow_size (f : Nat → Nat) (k : Nat) : (brow f k).size = 32 := by simp [brow]
theorem brow_at (f : Nat → Nat) (k j : Nat) (h : j < 32) : (brow f k)[j]? = some (.int .u8 ((if j < k then f j else 0 : Nat) : Int)) := by
  simp [brow, h]
theorem brow_set (f : Nat → Nat) (k : Nat) (h : k < 32) : (brow f k).setIfInBounds k (.int .u8 (f k : Nat)) = brow f (k + 1) := by
  apply Array.ext
  · simp [brow]
  · intro i h1 h2
    have hi : i < 32 := by simpa [brow] using h2
    by_cases e : i = k
    · subst e; simp [brow]
    · by_cases l : i < k
      · simp [brow, l, show i < k + 1 by omega, Ne.symm e]
      · simp [brow, l, show ¬ i < k + 1 by omega, Ne.symm e]
theorem brow_nought (f : Nat → Nat) : brow f 0 = #[.int .u8 0, .int .u8 0, .int .u8 0, .int .u8 0, .int .u8 0, .int .u8 0, .int .u8 0, .int .u8 0, .int .u8 0, .int .u8 0, .int .u8 0, .int .u8 0, .int .u8 0, .int .u8 0, .int .u8 0, .int .u8 0, .int .u8 0, .int .u8 0, .int .u8 0, .int .u8 0, .int .u8 0, .int .u8 0, .int .u8 0, .int .u8 0, .int .u8 0, .int .u8 0, .int .u8 0, .int .u8 0, .int .u8 0, .int .u8 0, .int .u8 0, .int .u8 0] := by kernel_rfl
theorem brow_full (f : Nat → Nat) : brow f 32 = #[.int .u8 (f 0 : Nat), .int .u8 (f 1 : Nat), .int .u8 (f 2 : Nat), .int .u8 (f 3 : Nat), .int .u8 (f 4 : Nat), .int .u8 (f 5 : Nat), .int .u8 (f 6 : Nat), .int .u8 (f 7 : Nat), .int .u8 (f 8 : Nat), .int .u8 (f 9 : Nat), .int .u8 (f 10 : Nat), .int .u8 (f 11 : Nat), .int .u8 (f 12 : Nat), .int .u8 (f 13 : Nat), .int .u8 (f 14 : Nat), .int .u8 (f 15 : Nat), .int .u8 (f 16 : Nat), .int .u8 (f 17 : Nat), .int .u8 (f 18 : Nat), .int .u8 (f 19 : Nat), .int .u8 (f 20 : Nat), .int .u8 (f 21 : Nat), .int .u8 (f 22 : Nat), .int .u8 (f 23 : Nat), .int .u8 (f 24 : Nat), .int .u8 (f 25 : Nat), .int .u8 (f 26 : Nat), .int .u8 (f 27 : Nat), .int .u8 (f 28 : Nat), .int .u8 (f 29 : Nat), .int .u8 (f 30 : Nat), .int .u8 (f 31 : Nat)] := by kernel_rfl
theorem brow_one (f : Nat → Nat) (k : Nat) : (brow f k).all (·.oneCell') = true := by
  simp [brow, Value.oneCell']
theorem heap3 (w : World) (A B C : Obj) : (((w.alloc A).alloc B).alloc C).heap[w.heap.size]? = some A ∧ (((w.alloc A).alloc B).alloc C).heap[w.heap.size + 1]? = some B ∧ (((w.alloc A).alloc B).alloc C).heap[w.heap.size + 1 + 1]? = some C := by
  show (((w.heap.push A).push B).push C)[w.heap.size]? = _ ∧ (((w.heap.push A).push B).push C)[w.heap.size + 1]? = _ ∧ (((w.heap.push A).push B).push C)[w.heap.size + 1 + 1]? = _
  refine ⟨?_, ?_, ?_⟩
  · simp [Array.getElem?_push]
    omega
  · have h : w.heap.size + 1 ≠ (((w.heap.push A).push B)).size := by simp
    rw [Array.getElem?_push, if_neg h, Array.getElem?_push, if_pos (by simp)]
  · rw [Array.getElem?_push, if_pos (by simp)]

theorem wpList_store_row {P : Program} {ops : Array Oper} {rest : List Oper} {o : Oper} {a : Act} {w : World} {Q : Exit → Act → World → Prop} (hgd : o.guard = none) (ty : TypeId) (x y : Operand) (ho : o.op = .store ty x y)
    (g : Nat) (cells : Array Value) (hx : a.eval x = .pointer (some ⟨g, 0, none⟩)) (hy : a.eval y = .agg cells)
    (t : TypeId) (old : Array Value) (hg : w.heap[g]? = some (.cells old t (0, 0))) (hi : (P.info? ty).map (·.size) = some cells.size)
    (hold : old.size = cells.size) (h1 : cells.all (·.oneCell') = true)
    (h : wpList P ops Q rest (a.put o.dst undef) (w.setRow g cells)) : wpList P ops Q (o :: rest) a w :=
  wpList_plain hgd fun _ hK => wp_store_row ty x y ho g cells hx hy t old hg hi hold h1 (hK _ _ h)

theorem below_heap {B : Nat} {w w' : World} (h : Below B w w') {k : Nat} (hk : k < B) : w'.heap[k]? = w.heap[k]? := h.block k hk

set_option maxRecDepth 100000 in
set_option maxHeartbeats 1000000 in
theorem bytes_walk (x a0 a1 a2 a3 : Nat) (hp : ∀ p, p < 4 → (#[Value.int .u64 a0, .int .u64 a1, .int .u64 a2, .int .u64 a3] : Array Value)[p]? = some (.int .u64 (pN x p : Nat))) (w : World) :
    Calls Tryd.prog 4 #[.agg #[.int .u64 a0, .int .u64 a1, .int .u64 a2, .int .u64 a3]] w fun e w' => e = .returned (.agg (brow (bt x) 32)) ∧ Below w.heap.size w w' := by
  have HP := Lib.hid hp; clear hp
  go_enter Tryd.func4, Tryd.ntmps4
  go_wp2
  go_loopw [6] (fun i wr => ∃ k : Nat, k ≤ 32 ∧ i = .int .i64 k ∧ Hid (wr.heap[w.heap.size]? = some (.cells #[Value.int .u64 a0, .int .u64 a1, .int .u64 a2, .int .u64 a3] 24 (0, 0)) ∧ wr.heap[w.heap.size + 1]? = some (.cells (brow (bt x) 0) 26 (0, 0)) ∧ wr.heap[w.heap.size + 1 + 1]? = some (.cells (brow (bt x) k) 26 (0, 0)) ∧ Below w.heap.size w wr))
    (fun i _ => 32 - (intOf i).toNat)
  case atStart =>
    refine ⟨0, by omega, rfl, Lib.hid ⟨(heap3 _ _ _ _).1, ?_, ?_, by go_grown⟩⟩
    · rw [brow_nought]; exact (heap3 _ _ _ _).2.1
    · rw [brow_nought]; exact (heap3 _ _ _ _).2.2
  case round =>
    obtain ⟨k, hk, rfl, H⟩ := hrel
    have hk0 : (0 : Int) ≤ k := by omega
    have hk1 : (k : Int) ≤ 32 := by omega
    by_cases hlt : k < 32
    · obtain ⟨q, hq⟩ : ∃ q : Nat, 31 - (k : Int) = (q : Int) := ⟨31 - k, by omega⟩
      obtain ⟨p, hp⟩ : ∃ p : Nat, (q : Int) / 8 = (p : Int) := ⟨q / 8, by omega⟩
      obtain ⟨s, hs⟩ : ∃ s : Nat, (q : Int) % 8 * 8 = (s : Int) := ⟨q % 8 * 8, by omega⟩
      have hq0 : (0 : Int) ≤ q := by omega
      have hq1 : (q : Int) ≤ 31 := by omega
      have hp0 : (0 : Int) ≤ p := by omega
      have hp1 : (p : Int) < 4 := by omega
      have hs0 : (0 : Int) ≤ s := by omega
      have hs1 : (s : Int) < 64 := by omega
      have ca : wr.cell? ⟨w.heap.size, p, none⟩ = some (.int .u64 (pN x p : Nat)) := (cell_of_row wr _ p _ _ _ H.out.1).trans (HP.out p (by omega))
      have cb : wr.cell? ⟨w.heap.size + 1 + 1, k, none⟩ = some (.int .u8 0) := by
        rw [cell_of_row wr _ k _ _ _ H.out.2.2.1, brow_at _ _ _ hlt, if_neg (by omega)]; rfl
      have cf : wr.frozen? ⟨w.heap.size + 1 + 1, k, none⟩ = false := frozen_of_row wr _ k _ _ H.out.2.2.1
      have hv : ((pN x p : Nat) : Int) / 2 ^ s % 256 = ((bt x k : Nat) : Int) := by
        rw [← bt_of x k p s hlt (by omega) (by omega)]; simp
      have hpl := pN_le x p
      have HV := Lib.hid hv; clear hv
      go_wp2
      go_roundw
      case rel =>
        refine ⟨k + 1, by omega, by go_num, Lib.hid ⟨(heap_setCell_other _ _ _ _ (by simp; omega)).trans H.out.1, (heap_setCell_other _ _ _ _ (by simp)).trans H.out.2.1, ?_, H.out.2.2.2.setCell (by simp; omega) _⟩⟩
        rw [heap_setCell_same _ _ _ _ _ _ H.out.2.2.1, HV.out, brow_set _ _ hlt]
      case measure => simp [intOf]; omega
    · obtain rfl : k = 32 := by omega
      have hi : (Tryd.prog.info? 26).map (·.size) = some (brow (bt x) 32).size := by rw [brow_size]; kernel_rfl
      have HI := Lib.hid hi; clear hi
      go_wp2_with (first | (refine wpList_load_row rfl 26 _ rfl (w.heap.size + 1 + 1) rfl 26 _ (0, 0) _ H.out.2.2.1 Tryd.underlying26 rfl HI.out ?_) | (refine wpList_store_row rfl 26 _ _ rfl (w.heap.size + 1) (brow (bt x) 32) rfl rfl 26 (brow (bt x) 0) H.out.2.1 HI.out (by rw [brow_size, brow_size]) (brow_one _ _) ?_))
      refine bodyPost_ret (v := .agg (brow (bt x) 32)) (results_cell_row (p := 2) rfl _ _ (w.heap.size + 1) 26 _ (0, 0) _ rfl (setRow_heap _ _ _ _ _ _ H.out.2.1) Tryd.underlying26 rfl HI.out) rfl ⟨rfl, below_setRow H.out.2.2.2 (by omega) _⟩

-- WHAT Bytes COMES TO.
theorem bytes_any (x : Nat) (w : World) :
    Calls Tryd.prog 4 #[wv x] w fun e w' => e = .returned (.agg (brow (bt x) 32)) ∧ Below w.heap.size w w' := by
  refine bytes_walk x _ _ _ _ (fun p hp => ?_) w
  have h : p = 0 ∨ p = 1 ∨ p = 2 ∨ p = 3 := by omega
  rcases h with rfl | rfl | rfl | rfl
  · simp [pN]
  · simp [pN]; omega
  · simp [pN]; omega
  · simp [pN]; omega

theorem index32_0 (f : Nat → Nat) (w : World) : (Instr.index 26 (.agg #[.int .u8 (f 0 : Nat), .int .u8 (f 1 : Nat), .int .u8 (f 2 : Nat), .int .u8 (f 3 : Nat), .int .u8 (f 4 : Nat), .int .u8 (f 5 : Nat), .int .u8 (f 6 : Nat), .int .u8 (f 7 : Nat), .int .u8 (f 8 : Nat), .int .u8 (f 9 : Nat), .int .u8 (f 10 : Nat), .int .u8 (f 11 : Nat), .int .u8 (f 12 : Nat), .int .u8 (f 13 : Nat), .int .u8 (f 14 : Nat), .int .u8 (f 15 : Nat), .int .u8 (f 16 : Nat), .int .u8 (f 17 : Nat), .int .u8 (f 18 : Nat), .int .u8 (f 19 : Nat), .int .u8 (f 20 : Nat), .int .u8 (f 21 : Nat), .int .u8 (f 22 : Nat), .int .u8 (f 23 : Nat), .int .u8 (f 24 : Nat), .int .u8 (f 25 : Nat), .int .u8 (f 26 : Nat), .int .u8 (f 27 : Nat), .int .u8 (f 28 : Nat), .int .u8 (f 29 : Nat), .int .u8 (f 30 : Nat), .int .u8 (f 31 : Nat)]) (.int .u64 (0 : Nat))).run Tryd.prog w = .ok (.int .u8 (f 0 : Nat)) w := by kernel_rfl
theorem index32_1 (f : Nat → Nat) (w : World) : (Instr.index 26 (.agg #[.int .u8 (f 0 : Nat), .int .u8 (f 1 : Nat), .int .u8 (f 2 : Nat), .int .u8 (f 3 : Nat), .int .u8 (f 4 : Nat), .int .u8 (f 5 : Nat), .int .u8 (f 6 : Nat), .int .u8 (f 7 : Nat), .int .u8 (f 8 : Nat), .int .u8 (f 9 : Nat), .int .u8 (f 10 : Nat), .int .u8 (f 11 : Nat), .int .u8 (f 12 : Nat), .int .u8 (f 13 : Nat), .int .u8 (f 14 : Nat), .int .u8 (f 15 : Nat), .int .u8 (f 16 : Nat), .int .u8 (f 17 : Nat), .int .u8 (f 18 : Nat), .int .u8 (f 19 : Nat), .int .u8 (f 20 : Nat), .int .u8 (f 21 : Nat), .int .u8 (f 22 : Nat), .int .u8 (f 23 : Nat), .int .u8 (f 24 : Nat), .int .u8 (f 25 : Nat), .int .u8 (f 26 : Nat), .int .u8 (f 27 : Nat), .int .u8 (f 28 : Nat), .int .u8 (f 29 : Nat), .int .u8 (f 30 : Nat), .int .u8 (f 31 : Nat)]) (.int .u64 (1 : Nat))).run Tryd.prog w = .ok (.int .u8 (f 1 : Nat)) w := by kernel_rfl
theorem index32_2 (f : Nat → Nat) (w : World) : (Instr.index 26 (.agg #[.int .u8 (f 0 : Nat), .int .u8 (f 1 : Nat), .int .u8 (f 2 : Nat), .int .u8 (f 3 : Nat), .int .u8 (f 4 : Nat), .int .u8 (f 5 : Nat), .int .u8 (f 6 : Nat), .int .u8 (f 7 : Nat), .int .u8 (f 8 : Nat), .int .u8 (f 9 : Nat), .int .u8 (f 10 : Nat), .int .u8 (f 11 : Nat), .int .u8 (f 12 : Nat), .int .u8 (f 13 : Nat), .int .u8 (f 14 : Nat), .int .u8 (f 15 : Nat), .int .u8 (f 16 : Nat), .int .u8 (f 17 : Nat), .int .u8 (f 18 : Nat), .int .u8 (f 19 : Nat), .int .u8 (f 20 : Nat), .int .u8 (f 21 : Nat), .int .u8 (f 22 : Nat), .int .u8 (f 23 : Nat), .int .u8 (f 24 : Nat), .int .u8 (f 25 : Nat), .int .u8 (f 26 : Nat), .int .u8 (f 27 : Nat), .int .u8 (f 28 : Nat), .int .u8 (f 29 : Nat), .int .u8 (f 30 : Nat), .int .u8 (f 31 : Nat)]) (.int .u64 (2 : Nat))).run Tryd.prog w = .ok (.int .u8 (f 2 : Nat)) w := by kernel_rfl
theorem index32_3 (f : Nat → Nat) (w : World) : (Instr.index 26 (.agg #[.int .u8 (f 0 : Nat), .int .u8 (f 1 : Nat), .int .u8 (f 2 : Nat), .int .u8 (f 3 : Nat), .int .u8 (f 4 : Nat), .int .u8 (f 5 : Nat), .int .u8 (f 6 : Nat), .int .u8 (f 7 : Nat), .int .u8 (f 8 : Nat), .int .u8 (f 9 : Nat), .int .u8 (f 10 : Nat), .int .u8 (f 11 : Nat), .int .u8 (f 12 : Nat), .int .u8 (f 13 : Nat), .int .u8 (f 14 : Nat), .int .u8 (f 15 : Nat), .int .u8 (f 16 : Nat), .int .u8 (f 17 : Nat), .int .u8 (f 18 : Nat), .int .u8 (f 19 : Nat), .int .u8 (f 20 : Nat), .int .u8 (f 21 : Nat), .int .u8 (f 22 : Nat), .int .u8 (f 23 : Nat), .int .u8 (f 24 : Nat), .int .u8 (f 25 : Nat), .int .u8 (f 26 : Nat), .int .u8 (f 27 : Nat), .int .u8 (f 28 : Nat), .int .u8 (f 29 : Nat), .int .u8 (f 30 : Nat), .int .u8 (f 31 : Nat)]) (.int .u64 (3 : Nat))).run Tryd.prog w = .ok (.int .u8 (f 3 : Nat)) w := by kernel_rfl
theorem index32_4 (f : Nat → Nat) (w : World) : (Instr.index 26 (.agg #[.int .u8 (f 0 : Nat), .int .u8 (f 1 : Nat), .int .u8 (f 2 : Nat), .int .u8 (f 3 : Nat), .int .u8 (f 4 : Nat), .int .u8 (f 5 : Nat), .int .u8 (f 6 : Nat), .int .u8 (f 7 : Nat), .int .u8 (f 8 : Nat), .int .u8 (f 9 : Nat), .int .u8 (f 10 : Nat), .int .u8 (f 11 : Nat), .int .u8 (f 12 : Nat), .int .u8 (f 13 : Nat), .int .u8 (f 14 : Nat), .int .u8 (f 15 : Nat), .int .u8 (f 16 : Nat), .int .u8 (f 17 : Nat), .int .u8 (f 18 : Nat), .int .u8 (f 19 : Nat), .int .u8 (f 20 : Nat), .int .u8 (f 21 : Nat), .int .u8 (f 22 : Nat), .int .u8 (f 23 : Nat), .int .u8 (f 24 : Nat), .int .u8 (f 25 : Nat), .int .u8 (f 26 : Nat), .int .u8 (f 27 : Nat), .int .u8 (f 28 : Nat), .int .u8 (f 29 : Nat), .int .u8 (f 30 : Nat), .int .u8 (f 31 : Nat)]) (.int .u64 (4 : Nat))).run Tryd.prog w = .ok (.int .u8 (f 4 : Nat)) w := by kernel_rfl
theorem index32_5 (f : Nat → Nat) (w : World) : (Instr.index 26 (.agg #[.int .u8 (f 0 : Nat), .int .u8 (f 1 : Nat), .int .u8 (f 2 : Nat), .int .u8 (f 3 : Nat), .int .u8 (f 4 : Nat), .int .u8 (f 5 : Nat), .int .u8 (f 6 : Nat), .int .u8 (f 7 : Nat), .int .u8 (f 8 : Nat), .int .u8 (f 9 : Nat), .int .u8 (f 10 : Nat), .int .u8 (f 11 : Nat), .int .u8 (f 12 : Nat), .int .u8 (f 13 : Nat), .int .u8 (f 14 : Nat), .int .u8 (f 15 : Nat), .int .u8 (f 16 : Nat), .int .u8 (f 17 : Nat), .int .u8 (f 18 : Nat), .int .u8 (f 19 : Nat), .int .u8 (f 20 : Nat), .int .u8 (f 21 : Nat), .int .u8 (f 22 : Nat), .int .u8 (f 23 : Nat), .int .u8 (f 24 : Nat), .int .u8 (f 25 : Nat), .int .u8 (f 26 : Nat), .int .u8 (f 27 : Nat), .int .u8 (f 28 : Nat), .int .u8 (f 29 : Nat), .int .u8 (f 30 : Nat), .int .u8 (f 31 : Nat)]) (.int .u64 (5 : Nat))).run Tryd.prog w = .ok (.int .u8 (f 5 : Nat)) w := by kernel_rfl
theorem index32_6 (f : Nat → Nat) (w : World) : (Instr.index 26 (.agg #[.int .u8 (f 0 : Nat), .int .u8 (f 1 : Nat), .int .u8 (f 2 : Nat), .int .u8 (f 3 : Nat), .int .u8 (f 4 : Nat), .int .u8 (f 5 : Nat), .int .u8 (f 6 : Nat), .int .u8 (f 7 : Nat), .int .u8 (f 8 : Nat), .int .u8 (f 9 : Nat), .int .u8 (f 10 : Nat), .int .u8 (f 11 : Nat), .int .u8 (f 12 : Nat), .int .u8 (f 13 : Nat), .int .u8 (f 14 : Nat), .int .u8 (f 15 : Nat), .int .u8 (f 16 : Nat), .int .u8 (f 17 : Nat), .int .u8 (f 18 : Nat), .int .u8 (f 19 : Nat), .int .u8 (f 20 : Nat), .int .u8 (f 21 : Nat), .int .u8 (f 22 : Nat), .int .u8 (f 23 : Nat), .int .u8 (f 24 : Nat), .int .u8 (f 25 : Nat), .int .u8 (f 26 : Nat), .int .u8 (f 27 : Nat), .int .u8 (f 28 : Nat), .int .u8 (f 29 : Nat), .int .u8 (f 30 : Nat), .int .u8 (f 31 : Nat)]) (.int .u64 (6 : Nat))).run Tryd.prog w = .ok (.int .u8 (f 6 : Nat)) w := by kernel_rfl
theorem index32_7 (f : Nat → Nat) (w : World) : (Instr.index 26 (.agg #[.int .u8 (f 0 : Nat), .int .u8 (f 1 : Nat), .int .u8 (f 2 : Nat), .int .u8 (f 3 : Nat), .int .u8 (f 4 : Nat), .int .u8 (f 5 : Nat), .int .u8 (f 6 : Nat), .int .u8 (f 7 : Nat), .int .u8 (f 8 : Nat), .int .u8 (f 9 : Nat), .int .u8 (f 10 : Nat), .int .u8 (f 11 : Nat), .int .u8 (f 12 : Nat), .int .u8 (f 13 : Nat), .int .u8 (f 14 : Nat), .int .u8 (f 15 : Nat), .int .u8 (f 16 : Nat), .int .u8 (f 17 : Nat), .int .u8 (f 18 : Nat), .int .u8 (f 19 : Nat), .int .u8 (f 20 : Nat), .int .u8 (f 21 : Nat), .int .u8 (f 22 : Nat), .int .u8 (f 23 : Nat), .int .u8 (f 24 : Nat), .int .u8 (f 25 : Nat), .int .u8 (f 26 : Nat), .int .u8 (f 27 : Nat), .int .u8 (f 28 : Nat), .int .u8 (f 29 : Nat), .int .u8 (f 30 : Nat), .int .u8 (f 31 : Nat)]) (.int .u64 (7 : Nat))).run Tryd.prog w = .ok (.int .u8 (f 7 : Nat)) w := by kernel_rfl
theorem index32_8 (f : Nat → Nat) (w : World) : (Instr.index 26 (.agg #[.int .u8 (f 0 : Nat), .int .u8 (f 1 : Nat), .int .u8 (f 2 : Nat), .int .u8 (f 3 : Nat), .int .u8 (f 4 : Nat), .int .u8 (f 5 : Nat), .int .u8 (f 6 : Nat), .int .u8 (f 7 : Nat), .int .u8 (f 8 : Nat), .int .u8 (f 9 : Nat), .int .u8 (f 10 : Nat), .int .u8 (f 11 : Nat), .int .u8 (f 12 : Nat), .int .u8 (f 13 : Nat), .int .u8 (f 14 : Nat), .int .u8 (f 15 : Nat), .int .u8 (f 16 : Nat), .int .u8 (f 17 : Nat), .int .u8 (f 18 : Nat), .int .u8 (f 19 : Nat), .int .u8 (f 20 : Nat), .int .u8 (f 21 : Nat), .int .u8 (f 22 : Nat), .int .u8 (f 23 : Nat), .int .u8 (f 24 : Nat), .int .u8 (f 25 : Nat), .int .u8 (f 26 : Nat), .int .u8 (f 27 : Nat), .int .u8 (f 28 : Nat), .int .u8 (f 29 : Nat), .int .u8 (f 30 : Nat), .int .u8 (f 31 : Nat)]) (.int .u64 (8 : Nat))).run Tryd.prog w = .ok (.int .u8 (f 8 : Nat)) w := by kernel_rfl
theorem index32_9 (f : Nat → Nat) (w : World) : (Instr.index 26 (.agg #[.int .u8 (f 0 : Nat), .int .u8 (f 1 : Nat), .int .u8 (f 2 : Nat), .int .u8 (f 3 : Nat), .int .u8 (f 4 : Nat), .int .u8 (f 5 : Nat), .int .u8 (f 6 : Nat), .int .u8 (f 7 : Nat), .int .u8 (f 8 : Nat), .int .u8 (f 9 : Nat), .int .u8 (f 10 : Nat), .int .u8 (f 11 : Nat), .int .u8 (f 12 : Nat), .int .u8 (f 13 : Nat), .int .u8 (f 14 : Nat), .int .u8 (f 15 : Nat), .int .u8 (f 16 : Nat), .int .u8 (f 17 : Nat), .int .u8 (f 18 : Nat), .int .u8 (f 19 : Nat), .int .u8 (f 20 : Nat), .int .u8 (f 21 : Nat), .int .u8 (f 22 : Nat), .int .u8 (f 23 : Nat), .int .u8 (f 24 : Nat), .int .u8 (f 25 : Nat), .int .u8 (f 26 : Nat), .int .u8 (f 27 : Nat), .int .u8 (f 28 : Nat), .int .u8 (f 29 : Nat), .int .u8 (f 30 : Nat), .int .u8 (f 31 : Nat)]) (.int .u64 (9 : Nat))).run Tryd.prog w = .ok (.int .u8 (f 9 : Nat)) w := by kernel_rfl
theorem index32_10 (f : Nat → Nat) (w : World) : (Instr.index 26 (.agg #[.int .u8 (f 0 : Nat), .int .u8 (f 1 : Nat), .int .u8 (f 2 : Nat), .int .u8 (f 3 : Nat), .int .u8 (f 4 : Nat), .int .u8 (f 5 : Nat), .int .u8 (f 6 : Nat), .int .u8 (f 7 : Nat), .int .u8 (f 8 : Nat), .int .u8 (f 9 : Nat), .int .u8 (f 10 : Nat), .int .u8 (f 11 : Nat), .int .u8 (f 12 : Nat), .int .u8 (f 13 : Nat), .int .u8 (f 14 : Nat), .int .u8 (f 15 : Nat), .int .u8 (f 16 : Nat), .int .u8 (f 17 : Nat), .int .u8 (f 18 : Nat), .int .u8 (f 19 : Nat), .int .u8 (f 20 : Nat), .int .u8 (f 21 : Nat), .int .u8 (f 22 : Nat), .int .u8 (f 23 : Nat), .int .u8 (f 24 : Nat), .int .u8 (f 25 : Nat), .int .u8 (f 26 : Nat), .int .u8 (f 27 : Nat), .int .u8 (f 28 : Nat), .int .u8 (f 29 : Nat), .int .u8 (f 30 : Nat), .int .u8 (f 31 : Nat)]) (.int .u64 (10 : Nat))).run Tryd.prog w = .ok (.int .u8 (f 10 : Nat)) w := by kernel_rfl
theorem index32_11 (f : Nat → Nat) (w : World) : (Instr.index 26 (.agg #[.int .u8 (f 0 : Nat), .int .u8 (f 1 : Nat), .int .u8 (f 2 : Nat), .int .u8 (f 3 : Nat), .int .u8 (f 4 : Nat), .int .u8 (f 5 : Nat), .int .u8 (f 6 : Nat), .int .u8 (f 7 : Nat), .int .u8 (f 8 : Nat), .int .u8 (f 9 : Nat), .int .u8 (f 10 : Nat), .int .u8 (f 11 : Nat), .int .u8 (f 12 : Nat), .int .u8 (f 13 : Nat), .int .u8 (f 14 : Nat), .int .u8 (f 15 : Nat), .int .u8 (f 16 : Nat), .int .u8 (f 17 : Nat), .int .u8 (f 18 : Nat), .int .u8 (f 19 : Nat), .int .u8 (f 20 : Nat), .int .u8 (f 21 : Nat), .int .u8 (f 22 : Nat), .int .u8 (f 23 : Nat), .int .u8 (f 24 : Nat), .int .u8 (f 25 : Nat), .int .u8 (f 26 : Nat), .int .u8 (f 27 : Nat), .int .u8 (f 28 : Nat), .int .u8 (f 29 : Nat), .int .u8 (f 30 : Nat), .int .u8 (f 31 : Nat)]) (.int .u64 (11 : Nat))).run Tryd.prog w = .ok (.int .u8 (f 11 : Nat)) w := by kernel_rfl
theorem index32_12 (f : Nat → Nat) (w : World) : (Instr.index 26 (.agg #[.int .u8 (f 0 : Nat), .int .u8 (f 1 : Nat), .int .u8 (f 2 : Nat), .int .u8 (f 3 : Nat), .int .u8 (f 4 : Nat), .int .u8 (f 5 : Nat), .int .u8 (f 6 : Nat), .int .u8 (f 7 : Nat), .int .u8 (f 8 : Nat), .int .u8 (f 9 : Nat), .int .u8 (f 10 : Nat), .int .u8 (f 11 : Nat), .int .u8 (f 12 : Nat), .int .u8 (f 13 : Nat), .int .u8 (f 14 : Nat), .int .u8 (f 15 : Nat), .int .u8 (f 16 : Nat), .int .u8 (f 17 : Nat), .int .u8 (f 18 : Nat), .int .u8 (f 19 : Nat), .int .u8 (f 20 : Nat), .int .u8 (f 21 : Nat), .int .u8 (f 22 : Nat), .int .u8 (f 23 : Nat), .int .u8 (f 24 : Nat), .int .u8 (f 25 : Nat), .int .u8 (f 26 : Nat), .int .u8 (f 27 : Nat), .int .u8 (f 28 : Nat), .int .u8 (f 29 : Nat), .int .u8 (f 30 : Nat), .int .u8 (f 31 : Nat)]) (.int .u64 (12 : Nat))).run Tryd.prog w = .ok (.int .u8 (f 12 : Nat)) w := by kernel_rfl
theorem index32_13 (f : Nat → Nat) (w : World) : (Instr.index 26 (.agg #[.int .u8 (f 0 : Nat), .int .u8 (f 1 : Nat), .int .u8 (f 2 : Nat), .int .u8 (f 3 : Nat), .int .u8 (f 4 : Nat), .int .u8 (f 5 : Nat), .int .u8 (f 6 : Nat), .int .u8 (f 7 : Nat), .int .u8 (f 8 : Nat), .int .u8 (f 9 : Nat), .int .u8 (f 10 : Nat), .int .u8 (f 11 : Nat), .int .u8 (f 12 : Nat), .int .u8 (f 13 : Nat), .int .u8 (f 14 : Nat), .int .u8 (f 15 : Nat), .int .u8 (f 16 : Nat), .int .u8 (f 17 : Nat), .int .u8 (f 18 : Nat), .int .u8 (f 19 : Nat), .int .u8 (f 20 : Nat), .int .u8 (f 21 : Nat), .int .u8 (f 22 : Nat), .int .u8 (f 23 : Nat), .int .u8 (f 24 : Nat), .int .u8 (f 25 : Nat), .int .u8 (f 26 : Nat), .int .u8 (f 27 : Nat), .int .u8 (f 28 : Nat), .int .u8 (f 29 : Nat), .int .u8 (f 30 : Nat), .int .u8 (f 31 : Nat)]) (.int .u64 (13 : Nat))).run Tryd.prog w = .ok (.int .u8 (f 13 : Nat)) w := by kernel_rfl
theorem index32_14 (f : Nat → Nat) (w : World) : (Instr.index 26 (.agg #[.int .u8 (f 0 : Nat), .int .u8 (f 1 : Nat), .int .u8 (f 2 : Nat), .int .u8 (f 3 : Nat), .int .u8 (f 4 : Nat), .int .u8 (f 5 : Nat), .int .u8 (f 6 : Nat), .int .u8 (f 7 : Nat), .int .u8 (f 8 : Nat), .int .u8 (f 9 : Nat), .int .u8 (f 10 : Nat), .int .u8 (f 11 : Nat), .int .u8 (f 12 : Nat), .int .u8 (f 13 : Nat), .int .u8 (f 14 : Nat), .int .u8 (f 15 : Nat), .int .u8 (f 16 : Nat), .int .u8 (f 17 : Nat), .int .u8 (f 18 : Nat), .int .u8 (f 19 : Nat), .int .u8 (f 20 : Nat), .int .u8 (f 21 : Nat), .int .u8 (f 22 : Nat), .int .u8 (f 23 : Nat), .int .u8 (f 24 : Nat), .int .u8 (f 25 : Nat), .int .u8 (f 26 : Nat), .int .u8 (f 27 : Nat), .int .u8 (f 28 : Nat), .int .u8 (f 29 : Nat), .int .u8 (f 30 : Nat), .int .u8 (f 31 : Nat)]) (.int .u64 (14 : Nat))).run Tryd.prog w = .ok (.int .u8 (f 14 : Nat)) w := by kernel_rfl
theorem index32_15 (f : Nat → Nat) (w : World) : (Instr.index 26 (.agg #[.int .u8 (f 0 : Nat), .int .u8 (f 1 : Nat), .int .u8 (f 2 : Nat), .int .u8 (f 3 : Nat), .int .u8 (f 4 : Nat), .int .u8 (f 5 : Nat), .int .u8 (f 6 : Nat), .int .u8 (f 7 : Nat), .int .u8 (f 8 : Nat), .int .u8 (f 9 : Nat), .int .u8 (f 10 : Nat), .int .u8 (f 11 : Nat), .int .u8 (f 12 : Nat), .int .u8 (f 13 : Nat), .int .u8 (f 14 : Nat), .int .u8 (f 15 : Nat), .int .u8 (f 16 : Nat), .int .u8 (f 17 : Nat), .int .u8 (f 18 : Nat), .int .u8 (f 19 : Nat), .int .u8 (f 20 : Nat), .int .u8 (f 21 : Nat), .int .u8 (f 22 : Nat), .int .u8 (f 23 : Nat), .int .u8 (f 24 : Nat), .int .u8 (f 25 : Nat), .int .u8 (f 26 : Nat), .int .u8 (f 27 : Nat), .int .u8 (f 28 : Nat), .int .u8 (f 29 : Nat), .int .u8 (f 30 : Nat), .int .u8 (f 31 : Nat)]) (.int .u64 (15 : Nat))).run Tryd.prog w = .ok (.int .u8 (f 15 : Nat)) w := by kernel_rfl
theorem index32_16 (f : Nat → Nat) (w : World) : (Instr.index 26 (.agg #[.int .u8 (f 0 : Nat), .int .u8 (f 1 : Nat), .int .u8 (f 2 : Nat), .int .u8 (f 3 : Nat), .int .u8 (f 4 : Nat), .int .u8 (f 5 : Nat), .int .u8 (f 6 : Nat), .int .u8 (f 7 : Nat), .int .u8 (f 8 : Nat), .int .u8 (f 9 : Nat), .int .u8 (f 10 : Nat), .int .u8 (f 11 : Nat), .int .u8 (f 12 : Nat), .int .u8 (f 13 : Nat), .int .u8 (f 14 : Nat), .int .u8 (f 15 : Nat), .int .u8 (f 16 : Nat), .int .u8 (f 17 : Nat), .int .u8 (f 18 : Nat), .int .u8 (f 19 : Nat), .int .u8 (f 20 : Nat), .int .u8 (f 21 : Nat), .int .u8 (f 22 : Nat), .int .u8 (f 23 : Nat), .int .u8 (f 24 : Nat), .int .u8 (f 25 : Nat), .int .u8 (f 26 : Nat), .int .u8 (f 27 : Nat), .int .u8 (f 28 : Nat), .int .u8 (f 29 : Nat), .int .u8 (f 30 : Nat), .int .u8 (f 31 : Nat)]) (.int .u64 (16 : Nat))).run Tryd.prog w = .ok (.int .u8 (f 16 : Nat)) w := by kernel_rfl
theorem index32_17 (f : Nat → Nat) (w : World) : (Instr.index 26 (.agg #[.int .u8 (f 0 : Nat), .int .u8 (f 1 : Nat), .int .u8 (f 2 : Nat), .int .u8 (f 3 : Nat), .int .u8 (f 4 : Nat), .int .u8 (f 5 : Nat), .int .u8 (f 6 : Nat), .int .u8 (f 7 : Nat), .int .u8 (f 8 : Nat), .int .u8 (f 9 : Nat), .int .u8 (f 10 : Nat), .int .u8 (f 11 : Nat), .int .u8 (f 12 : Nat), .int .u8 (f 13 : Nat), .int .u8 (f 14 : Nat), .int .u8 (f 15 : Nat), .int .u8 (f 16 : Nat), .int .u8 (f 17 : Nat), .int .u8 (f 18 : Nat), .int .u8 (f 19 : Nat), .int .u8 (f 20 : Nat), .int .u8 (f 21 : Nat), .int .u8 (f 22 : Nat), .int .u8 (f 23 : Nat), .int .u8 (f 24 : Nat), .int .u8 (f 25 : Nat), .int .u8 (f 26 : Nat), .int .u8 (f 27 : Nat), .int .u8 (f 28 : Nat), .int .u8 (f 29 : Nat), .int .u8 (f 30 : Nat), .int .u8 (f 31 : Nat)]) (.int .u64 (17 : Nat))).run Tryd.prog w = .ok (.int .u8 (f 17 : Nat)) w := by kernel_rfl
theorem index32_18 (f : Nat → Nat) (w : World) : (Instr.index 26 (.agg #[.int .u8 (f 0 : Nat), .int .u8 (f 1 : Nat), .int .u8 (f 2 : Nat), .int .u8 (f 3 : Nat), .int .u8 (f 4 : Nat), .int .u8 (f 5 : Nat), .int .u8 (f 6 : Nat), .int .u8 (f 7 : Nat), .int .u8 (f 8 : Nat), .int .u8 (f 9 : Nat), .int .u8 (f 10 : Nat), .int .u8 (f 11 : Nat), .int .u8 (f 12 : Nat), .int .u8 (f 13 : Nat), .int .u8 (f 14 : Nat), .int .u8 (f 15 : Nat), .int .u8 (f 16 : Nat), .int .u8 (f 17 : Nat), .int .u8 (f 18 : Nat), .int .u8 (f 19 : Nat), .int .u8 (f 20 : Nat), .int .u8 (f 21 : Nat), .int .u8 (f 22 : Nat), .int .u8 (f 23 : Nat), .int .u8 (f 24 : Nat), .int .u8 (f 25 : Nat), .int .u8 (f 26 : Nat), .int .u8 (f 27 : Nat), .int .u8 (f 28 : Nat), .int .u8 (f 29 : Nat), .int .u8 (f 30 : Nat), .int .u8 (f 31 : Nat)]) (.int .u64 (18 : Nat))).run Tryd.prog w = .ok (.int .u8 (f 18 : Nat)) w := by kernel_rfl
theorem index32_19 (f : Nat → Nat) (w : World) : (Instr.index 26 (.agg #[.int .u8 (f 0 : Nat), .int .u8 (f 1 : Nat), .int .u8 (f 2 : Nat), .int .u8 (f 3 : Nat), .int .u8 (f 4 : Nat), .int .u8 (f 5 : Nat), .int .u8 (f 6 : Nat), .int .u8 (f 7 : Nat), .int .u8 (f 8 : Nat), .int .u8 (f 9 : Nat), .int .u8 (f 10 : Nat), .int .u8 (f 11 : Nat), .int .u8 (f 12 : Nat), .int .u8 (f 13 : Nat), .int .u8 (f 14 : Nat), .int .u8 (f 15 : Nat), .int .u8 (f 16 : Nat), .int .u8 (f 17 : Nat), .int .u8 (f 18 : Nat), .int .u8 (f 19 : Nat), .int .u8 (f 20 : Nat), .int .u8 (f 21 : Nat), .int .u8 (f 22 : Nat), .int .u8 (f 23 : Nat), .int .u8 (f 24 : Nat), .int .u8 (f 25 : Nat), .int .u8 (f 26 : Nat), .int .u8 (f 27 : Nat), .int .u8 (f 28 : Nat), .int .u8 (f 29 : Nat), .int .u8 (f 30 : Nat), .int .u8 (f 31 : Nat)]) (.int .u64 (19 : Nat))).run Tryd.prog w = .ok (.int .u8 (f 19 : Nat)) w := by kernel_rfl
theorem index32_20 (f : Nat → Nat) (w : World) : (Instr.index 26 (.agg #[.int .u8 (f 0 : Nat), .int .u8 (f 1 : Nat), .int .u8 (f 2 : Nat), .int .u8 (f 3 : Nat), .int .u8 (f 4 : Nat), .int .u8 (f 5 : Nat), .int .u8 (f 6 : Nat), .int .u8 (f 7 : Nat), .int .u8 (f 8 : Nat), .int .u8 (f 9 : Nat), .int .u8 (f 10 : Nat), .int .u8 (f 11 : Nat), .int .u8 (f 12 : Nat), .int .u8 (f 13 : Nat), .int .u8 (f 14 : Nat), .int .u8 (f 15 : Nat), .int .u8 (f 16 : Nat), .int .u8 (f 17 : Nat), .int .u8 (f 18 : Nat), .int .u8 (f 19 : Nat), .int .u8 (f 20 : Nat), .int .u8 (f 21 : Nat), .int .u8 (f 22 : Nat), .int .u8 (f 23 : Nat), .int .u8 (f 24 : Nat), .int .u8 (f 25 : Nat), .int .u8 (f 26 : Nat), .int .u8 (f 27 : Nat), .int .u8 (f 28 : Nat), .int .u8 (f 29 : Nat), .int .u8 (f 30 : Nat), .int .u8 (f 31 : Nat)]) (.int .u64 (20 : Nat))).run Tryd.prog w = .ok (.int .u8 (f 20 : Nat)) w := by kernel_rfl
theorem index32_21 (f : Nat → Nat) (w : World) : (Instr.index 26 (.agg #[.int .u8 (f 0 : Nat), .int .u8 (f 1 : Nat), .int .u8 (f 2 : Nat), .int .u8 (f 3 : Nat), .int .u8 (f 4 : Nat), .int .u8 (f 5 : Nat), .int .u8 (f 6 : Nat), .int .u8 (f 7 : Nat), .int .u8 (f 8 : Nat), .int .u8 (f 9 : Nat), .int .u8 (f 10 : Nat), .int .u8 (f 11 : Nat), .int .u8 (f 12 : Nat), .int .u8 (f 13 : Nat), .int .u8 (f 14 : Nat), .int .u8 (f 15 : Nat), .int .u8 (f 16 : Nat), .int .u8 (f 17 : Nat), .int .u8 (f 18 : Nat), .int .u8 (f 19 : Nat), .int .u8 (f 20 : Nat), .int .u8 (f 21 : Nat), .int .u8 (f 22 : Nat), .int .u8 (f 23 : Nat), .int .u8 (f 24 : Nat), .int .u8 (f 25 : Nat), .int .u8 (f 26 : Nat), .int .u8 (f 27 : Nat), .int .u8 (f 28 : Nat), .int .u8 (f 29 : Nat), .int .u8 (f 30 : Nat), .int .u8 (f 31 : Nat)]) (.int .u64 (21 : Nat))).run Tryd.prog w = .ok (.int .u8 (f 21 : Nat)) w := by kernel_rfl
theorem index32_22 (f : Nat → Nat) (w : World) : (Instr.index 26 (.agg #[.int .u8 (f 0 : Nat), .int .u8 (f 1 : Nat), .int .u8 (f 2 : Nat), .int .u8 (f 3 : Nat), .int .u8 (f 4 : Nat), .int .u8 (f 5 : Nat), .int .u8 (f 6 : Nat), .int .u8 (f 7 : Nat), .int .u8 (f 8 : Nat), .int .u8 (f 9 : Nat), .int .u8 (f 10 : Nat), .int .u8 (f 11 : Nat), .int .u8 (f 12 : Nat), .int .u8 (f 13 : Nat), .int .u8 (f 14 : Nat), .int .u8 (f 15 : Nat), .int .u8 (f 16 : Nat), .int .u8 (f 17 : Nat), .int .u8 (f 18 : Nat), .int .u8 (f 19 : Nat), .int .u8 (f 20 : Nat), .int .u8 (f 21 : Nat), .int .u8 (f 22 : Nat), .int .u8 (f 23 : Nat), .int .u8 (f 24 : Nat), .int .u8 (f 25 : Nat), .int .u8 (f 26 : Nat), .int .u8 (f 27 : Nat), .int .u8 (f 28 : Nat), .int .u8 (f 29 : Nat), .int .u8 (f 30 : Nat), .int .u8 (f 31 : Nat)]) (.int .u64 (22 : Nat))).run Tryd.prog w = .ok (.int .u8 (f 22 : Nat)) w := by kernel_rfl
theorem index32_23 (f : Nat → Nat) (w : World) : (Instr.index 26 (.agg #[.int .u8 (f 0 : Nat), .int .u8 (f 1 : Nat), .int .u8 (f 2 : Nat), .int .u8 (f 3 : Nat), .int .u8 (f 4 : Nat), .int .u8 (f 5 : Nat), .int .u8 (f 6 : Nat), .int .u8 (f 7 : Nat), .int .u8 (f 8 : Nat), .int .u8 (f 9 : Nat), .int .u8 (f 10 : Nat), .int .u8 (f 11 : Nat), .int .u8 (f 12 : Nat), .int .u8 (f 13 : Nat), .int .u8 (f 14 : Nat), .int .u8 (f 15 : Nat), .int .u8 (f 16 : Nat), .int .u8 (f 17 : Nat), .int .u8 (f 18 : Nat), .int .u8 (f 19 : Nat), .int .u8 (f 20 : Nat), .int .u8 (f 21 : Nat), .int .u8 (f 22 : Nat), .int .u8 (f 23 : Nat), .int .u8 (f 24 : Nat), .int .u8 (f 25 : Nat), .int .u8 (f 26 : Nat), .int .u8 (f 27 : Nat), .int .u8 (f 28 : Nat), .int .u8 (f 29 : Nat), .int .u8 (f 30 : Nat), .int .u8 (f 31 : Nat)]) (.int .u64 (23 : Nat))).run Tryd.prog w = .ok (.int .u8 (f 23 : Nat)) w := by kernel_rfl
theorem index32_24 (f : Nat → Nat) (w : World) : (Instr.index 26 (.agg #[.int .u8 (f 0 : Nat), .int .u8 (f 1 : Nat), .int .u8 (f 2 : Nat), .int .u8 (f 3 : Nat), .int .u8 (f 4 : Nat), .int .u8 (f 5 : Nat), .int .u8 (f 6 : Nat), .int .u8 (f 7 : Nat), .int .u8 (f 8 : Nat), .int .u8 (f 9 : Nat), .int .u8 (f 10 : Nat), .int .u8 (f 11 : Nat), .int .u8 (f 12 : Nat), .int .u8 (f 13 : Nat), .int .u8 (f 14 : Nat), .int .u8 (f 15 : Nat), .int .u8 (f 16 : Nat), .int .u8 (f 17 : Nat), .int .u8 (f 18 : Nat), .int .u8 (f 19 : Nat), .int .u8 (f 20 : Nat), .int .u8 (f 21 : Nat), .int .u8 (f 22 : Nat), .int .u8 (f 23 : Nat), .int .u8 (f 24 : Nat), .int .u8 (f 25 : Nat), .int .u8 (f 26 : Nat), .int .u8 (f 27 : Nat), .int .u8 (f 28 : Nat), .int .u8 (f 29 : Nat), .int .u8 (f 30 : Nat), .int .u8 (f 31 : Nat)]) (.int .u64 (24 : Nat))).run Tryd.prog w = .ok (.int .u8 (f 24 : Nat)) w := by kernel_rfl
theorem index32_25 (f : Nat → Nat) (w : World) : (Instr.index 26 (.agg #[.int .u8 (f 0 : Nat), .int .u8 (f 1 : Nat), .int .u8 (f 2 : Nat), .int .u8 (f 3 : Nat), .int .u8 (f 4 : Nat), .int .u8 (f 5 : Nat), .int .u8 (f 6 : Nat), .int .u8 (f 7 : Nat), .int .u8 (f 8 : Nat), .int .u8 (f 9 : Nat), .int .u8 (f 10 : Nat), .int .u8 (f 11 : Nat), .int .u8 (f 12 : Nat), .int .u8 (f 13 : Nat), .int .u8 (f 14 : Nat), .int .u8 (f 15 : Nat), .int .u8 (f 16 : Nat), .int .u8 (f 17 : Nat), .int .u8 (f 18 : Nat), .int .u8 (f 19 : Nat), .int .u8 (f 20 : Nat), .int .u8 (f 21 : Nat), .int .u8 (f 22 : Nat), .int .u8 (f 23 : Nat), .int .u8 (f 24 : Nat), .int .u8 (f 25 : Nat), .int .u8 (f 26 : Nat), .int .u8 (f 27 : Nat), .int .u8 (f 28 : Nat), .int .u8 (f 29 : Nat), .int .u8 (f 30 : Nat), .int .u8 (f 31 : Nat)]) (.int .u64 (25 : Nat))).run Tryd.prog w = .ok (.int .u8 (f 25 : Nat)) w := by kernel_rfl
theorem index32_26 (f : Nat → Nat) (w : World) : (Instr.index 26 (.agg #[.int .u8 (f 0 : Nat), .int .u8 (f 1 : Nat), .int .u8 (f 2 : Nat), .int .u8 (f 3 : Nat), .int .u8 (f 4 : Nat), .int .u8 (f 5 : Nat), .int .u8 (f 6 : Nat), .int .u8 (f 7 : Nat), .int .u8 (f 8 : Nat), .int .u8 (f 9 : Nat), .int .u8 (f 10 : Nat), .int .u8 (f 11 : Nat), .int .u8 (f 12 : Nat), .int .u8 (f 13 : Nat), .int .u8 (f 14 : Nat), .int .u8 (f 15 : Nat), .int .u8 (f 16 : Nat), .int .u8 (f 17 : Nat), .int .u8 (f 18 : Nat), .int .u8 (f 19 : Nat), .int .u8 (f 20 : Nat), .int .u8 (f 21 : Nat), .int .u8 (f 22 : Nat), .int .u8 (f 23 : Nat), .int .u8 (f 24 : Nat), .int .u8 (f 25 : Nat), .int .u8 (f 26 : Nat), .int .u8 (f 27 : Nat), .int .u8 (f 28 : Nat), .int .u8 (f 29 : Nat), .int .u8 (f 30 : Nat), .int .u8 (f 31 : Nat)]) (.int .u64 (26 : Nat))).run Tryd.prog w = .ok (.int .u8 (f 26 : Nat)) w := by kernel_rfl
theorem index32_27 (f : Nat → Nat) (w : World) : (Instr.index 26 (.agg #[.int .u8 (f 0 : Nat), .int .u8 (f 1 : Nat), .int .u8 (f 2 : Nat), .int .u8 (f 3 : Nat), .int .u8 (f 4 : Nat), .int .u8 (f 5 : Nat), .int .u8 (f 6 : Nat), .int .u8 (f 7 : Nat), .int .u8 (f 8 : Nat), .int .u8 (f 9 : Nat), .int .u8 (f 10 : Nat), .int .u8 (f 11 : Nat), .int .u8 (f 12 : Nat), .int .u8 (f 13 : Nat), .int .u8 (f 14 : Nat), .int .u8 (f 15 : Nat), .int .u8 (f 16 : Nat), .int .u8 (f 17 : Nat), .int .u8 (f 18 : Nat), .int .u8 (f 19 : Nat), .int .u8 (f 20 : Nat), .int .u8 (f 21 : Nat), .int .u8 (f 22 : Nat), .int .u8 (f 23 : Nat), .int .u8 (f 24 : Nat), .int .u8 (f 25 : Nat), .int .u8 (f 26 : Nat), .int .u8 (f 27 : Nat), .int .u8 (f 28 : Nat), .int .u8 (f 29 : Nat), .int .u8 (f 30 : Nat), .int .u8 (f 31 : Nat)]) (.int .u64 (27 : Nat))).run Tryd.prog w = .ok (.int .u8 (f 27 : Nat)) w := by kernel_rfl
theorem index32_28 (f : Nat → Nat) (w : World) : (Instr.index 26 (.agg #[.int .u8 (f 0 : Nat), .int .u8 (f 1 : Nat), .int .u8 (f 2 : Nat), .int .u8 (f 3 : Nat), .int .u8 (f 4 : Nat), .int .u8 (f 5 : Nat), .int .u8 (f 6 : Nat), .int .u8 (f 7 : Nat), .int .u8 (f 8 : Nat), .int .u8 (f 9 : Nat), .int .u8 (f 10 : Nat), .int .u8 (f 11 : Nat), .int .u8 (f 12 : Nat), .int .u8 (f 13 : Nat), .int .u8 (f 14 : Nat), .int .u8 (f 15 : Nat), .int .u8 (f 16 : Nat), .int .u8 (f 17 : Nat), .int .u8 (f 18 : Nat), .int .u8 (f 19 : Nat), .int .u8 (f 20 : Nat), .int .u8 (f 21 : Nat), .int .u8 (f 22 : Nat), .int .u8 (f 23 : Nat), .int .u8 (f 24 : Nat), .int .u8 (f 25 : Nat), .int .u8 (f 26 : Nat), .int .u8 (f 27 : Nat), .int .u8 (f 28 : Nat), .int .u8 (f 29 : Nat), .int .u8 (f 30 : Nat), .int .u8 (f 31 : Nat)]) (.int .u64 (28 : Nat))).run Tryd.prog w = .ok (.int .u8 (f 28 : Nat)) w := by kernel_rfl
theorem index32_29 (f : Nat → Nat) (w : World) : (Instr.index 26 (.agg #[.int .u8 (f 0 : Nat), .int .u8 (f 1 : Nat), .int .u8 (f 2 : Nat), .int .u8 (f 3 : Nat), .int .u8 (f 4 : Nat), .int .u8 (f 5 : Nat), .int .u8 (f 6 : Nat), .int .u8 (f 7 : Nat), .int .u8 (f 8 : Nat), .int .u8 (f 9 : Nat), .int .u8 (f 10 : Nat), .int .u8 (f 11 : Nat), .int .u8 (f 12 : Nat), .int .u8 (f 13 : Nat), .int .u8 (f 14 : Nat), .int .u8 (f 15 : Nat), .int .u8 (f 16 : Nat), .int .u8 (f 17 : Nat), .int .u8 (f 18 : Nat), .int .u8 (f 19 : Nat), .int .u8 (f 20 : Nat), .int .u8 (f 21 : Nat), .int .u8 (f 22 : Nat), .int .u8 (f 23 : Nat), .int .u8 (f 24 : Nat), .int .u8 (f 25 : Nat), .int .u8 (f 26 : Nat), .int .u8 (f 27 : Nat), .int .u8 (f 28 : Nat), .int .u8 (f 29 : Nat), .int .u8 (f 30 : Nat), .int .u8 (f 31 : Nat)]) (.int .u64 (29 : Nat))).run Tryd.prog w = .ok (.int .u8 (f 29 : Nat)) w := by kernel_rfl
theorem index32_30 (f : Nat → Nat) (w : World) : (Instr.index 26 (.agg #[.int .u8 (f 0 : Nat), .int .u8 (f 1 : Nat), .int .u8 (f 2 : Nat), .int .u8 (f 3 : Nat), .int .u8 (f 4 : Nat), .int .u8 (f 5 : Nat), .int .u8 (f 6 : Nat), .int .u8 (f 7 : Nat), .int .u8 (f 8 : Nat), .int .u8 (f 9 : Nat), .int .u8 (f 10 : Nat), .int .u8 (f 11 : Nat), .int .u8 (f 12 : Nat), .int .u8 (f 13 : Nat), .int .u8 (f 14 : Nat), .int .u8 (f 15 : Nat), .int .u8 (f 16 : Nat), .int .u8 (f 17 : Nat), .int .u8 (f 18 : Nat), .int .u8 (f 19 : Nat), .int .u8 (f 20 : Nat), .int .u8 (f 21 : Nat), .int .u8 (f 22 : Nat), .int .u8 (f 23 : Nat), .int .u8 (f 24 : Nat), .int .u8 (f 25 : Nat), .int .u8 (f 26 : Nat), .int .u8 (f 27 : Nat), .int .u8 (f 28 : Nat), .int .u8 (f 29 : Nat), .int .u8 (f 30 : Nat), .int .u8 (f 31 : Nat)]) (.int .u64 (30 : Nat))).run Tryd.prog w = .ok (.int .u8 (f 30 : Nat)) w := by kernel_rfl
theorem index32_31 (f : Nat → Nat) (w : World) : (Instr.index 26 (.agg #[.int .u8 (f 0 : Nat), .int .u8 (f 1 : Nat), .int .u8 (f 2 : Nat), .int .u8 (f 3 : Nat), .int .u8 (f 4 : Nat), .int .u8 (f 5 : Nat), .int .u8 (f 6 : Nat), .int .u8 (f 7 : Nat), .int .u8 (f 8 : Nat), .int .u8 (f 9 : Nat), .int .u8 (f 10 : Nat), .int .u8 (f 11 : Nat), .int .u8 (f 12 : Nat), .int .u8 (f 13 : Nat), .int .u8 (f 14 : Nat), .int .u8 (f 15 : Nat), .int .u8 (f 16 : Nat), .int .u8 (f 17 : Nat), .int .u8 (f 18 : Nat), .int .u8 (f 19 : Nat), .int .u8 (f 20 : Nat), .int .u8 (f 21 : Nat), .int .u8 (f 22 : Nat), .int .u8 (f 23 : Nat), .int .u8 (f 24 : Nat), .int .u8 (f 25 : Nat), .int .u8 (f 26 : Nat), .int .u8 (f 27 : Nat), .int .u8 (f 28 : Nat), .int .u8 (f 29 : Nat), .int .u8 (f 30 : Nat), .int .u8 (f 31 : Nat)]) (.int .u64 (31 : Nat))).run Tryd.prog w = .ok (.int .u8 (f 31 : Nat)) w := by kernel_rfl
theorem index32 (f : Nat → Nat) (n : Nat) (hn : n < 32) (w : World) : (Instr.index 26 (.agg (brow f 32)) (.int .u64 n)).run Tryd.prog w = .ok (.int .u8 (f n : Nat)) w := by
  rw [brow_full]
  have h : n = 0 ∨ n = 1 ∨ n = 2 ∨ n = 3 ∨ n = 4 ∨ n = 5 ∨ n = 6 ∨ n = 7 ∨ n = 8 ∨ n = 9 ∨ n = 10 ∨ n = 11 ∨ n = 12 ∨ n = 13 ∨ n = 14 ∨ n = 15 ∨ n = 16 ∨ n = 17 ∨ n = 18 ∨ n = 19 ∨ n = 20 ∨ n = 21 ∨ n = 22 ∨ n = 23 ∨ n = 24 ∨ n = 25 ∨ n = 26 ∨ n = 27 ∨ n = 28 ∨ n = 29 ∨ n = 30 ∨ n = 31 := by omega
  rcases h with rfl | rfl | rfl | rfl | rfl | rfl | rfl | rfl | rfl | rfl | rfl | rfl | rfl | rfl | rfl | rfl | rfl | rfl | rfl | rfl | rfl | rfl | rfl | rfl | rfl | rfl | rfl | rfl | rfl | rfl | rfl | rfl
  · exact index32_0 f w
  · exact index32_1 f w
  · exact index32_2 f w
  · exact index32_3 f w
  · exact index32_4 f w
  · exact index32_5 f w
  · exact index32_6 f w
  · exact index32_7 f w
  · exact index32_8 f w
  · exact index32_9 f w
  · exact index32_10 f w
  · exact index32_11 f w
  · exact index32_12 f w
  · exact index32_13 f w
  · exact index32_14 f w
  · exact index32_15 f w
  · exact index32_16 f w
  · exact index32_17 f w
  · exact index32_18 f w
  · exact index32_19 f w
  · exact index32_20 f w
  · exact index32_21 f w
  · exact index32_22 f w
  · exact index32_23 f w
  · exact index32_24 f w
  · exact index32_25 f w
  · exact index32_26 f w
  · exact index32_27 f w
  · exact index32_28 f w
  · exact index32_29 f w
  · exact index32_30 f w
  · exact index32_31 f w
end Go.Proofs.YtmhgnlngcjckbaaDoor
namespace Go.Proofs.YtmhgnlngcjckbaaDoor
open Go.RowKit

/-- The number of n digits of 16 bits. -/
def vd (d : Nat → Nat) : Nat → Nat
  | 0 => 0
  | n + 1 => vd d n + 65536 ^ n * d n
theorem vd_congr {d e : Nat → Nat} {n : Nat} (h : ∀ j, j < n → d j = e j) : vd d n = vd e n := by
  induction n with
  | zero => rfl
  | succ n ih => simp only [vd]; rw [ih (fun j hj => h j (by omega)), h n (by omega)]
theorem vd_lt {d : Nat → Nat} {n : Nat} (h : ∀ j, j < n → d j < 65536) : vd d n < 65536 ^ n := by
  induction n with
  | zero => simp [vd]
  | succ n ih =>
    have h1 := ih (fun j hj => h j (by omega))
    have h2 : 65536 ^ n * d n ≤ 65536 ^ n * 65535 := Nat.mul_le_mul_left _ (by have := h n (by omega); omega)
    simp only [vd]
    rw [Nat.pow_succ]
    omega
theorem vd_mod (X n : Nat) : vd (fun j => X / 65536 ^ j % 65536) n = X % 65536 ^ n := by
  induction n with
  | zero => simp [vd, Nat.mod_one]
  | succ n ih => simp only [vd]; rw [ih, Nat.pow_succ, Nat.mod_mul]
/-- Digits, and noughts behind them. -/
def pad (d : Nat → Nat) (n j : Nat) : Nat := if j < n then d j else 0
theorem vd_pad (d : Nat → Nat) (n k : Nat) (h : n ≤ k) : vd (pad d n) k = vd d n := by
  induction k with
  | zero =>
    obtain rfl : n = 0 := by omega
    rfl
  | succ k ih =>
    by_cases e : n = k + 1
    · subst e; exact vd_congr (fun j hj => by simp [pad, hj])
    · simp only [vd]
      rw [ih (by omega), show pad d n k = 0 by simp [pad]; omega]
      simp

/-- Digits as cells. -/
def dl (d : Nat → Nat) (n : Nat) : List Value := (List.range n).map fun j => .int .u64 (d j : Nat)
theorem dl_len (d : Nat → Nat) (n : Nat) : (dl d n).length = n := by simp [dl]
theorem dl_at (d : Nat → Nat) (n j : Nat) (h : j < n) : (dl d n)[j]? = some (.int .u64 (d j : Nat)) := by simp [dl, h]
/-- One digit more. -/
def upd (d : Nat → Nat) (k y j : Nat) : Nat := if j = k then y else d j
theorem dl_snoc (d : Nat → Nat) (k y : Nat) : dl d k ++ [.int .u64 (y : Nat)] = dl (upd d k y) (k + 1) := by
  unfold dl
  rw [List.range_succ, List.map_append]
  congr 1
  · apply List.map_congr_left
    intro j hj
    have : j < k := by simpa using hj
    simp [upd, show ¬ j = k by omega]
  · simp [upd]
theorem upd_lt {d : Nat → Nat} {k y : Nat} (h : ∀ j, j < k → d j < 65536) (hy : y < 65536) : ∀ j, j < k + 1 → upd d k y j < 65536 := fun j hj => by
  unfold upd
  by_cases e : j = k
  · simp [e, hy]
  · simp only [e, if_false]; exact h j (by omega)
theorem vd_upd (d : Nat → Nat) (k y : Nat) : vd (upd d k y) (k + 1) = vd d k + 65536 ^ k * y := by
  simp only [vd]
  rw [vd_congr (d := upd d k y) (e := d) (fun j hj => by simp [upd, show ¬ j = k by omega])]
  simp [upd]

/-- A slice of digits that lies in block b. -/
def Dg (w : World) (b n : Nat) (d : Nat → Nat) : Prop := b < w.heap.size ∧ ∀ j, j < n → w.cell? ⟨b, j, none⟩ = some (.int .u64 (d j : Nat))
theorem Dg.below {w w' : World} {b n : Nat} {d : Nat → Nat} (h : Dg w b n d) (hb : Below w.heap.size w w') : Dg w' b n d :=
  ⟨Nat.lt_of_lt_of_le h.1 hb.size, fun j hj => (hb.cell (p := ⟨b, j, none⟩) h.1).trans (h.2 j hj)⟩
/-- What a call that makes n digits leaves, their number V. -/
def MkDg (n V : Nat) (w : World) (e : Ending) (w' : World) : Prop :=
  ∃ (b cap : Nat) (d : Nat → Nat), e = .returned (.slice (some ⟨b, 0, none⟩) n cap) ∧ w.heap.size ≤ b ∧ Dg w' b n d ∧ (∀ j, j < n → d j < 65536) ∧ vd d n = V ∧ Below w.heap.size w w'

theorem info22 : (Tryd.prog.info? 22).map (fun i => (i.zero, i.size, i.bytes)) = some (some (.int .u64 0), 1, 8) := by kernel_rfl

/-- What a round that appends one digit leaves. -/
theorem push_rel {w wr w1 : World} {base : Nat} {v v' X : Value} {k y : Nat} {ns : Nat → Nat} (hown : wr.ownsRow base 22 1 v k (dl ns k)) (hb : Below base w wr) (hsz : base ≤ wr.heap.size)
    (hown' : w1.ownsRow base 22 1 v' (k + 1) (dl ns k ++ [.int .u64 (y : Nat)])) (hgrow : (wr.alloc (.cells #[X] 22)).grownBy w1 v.ownBlock) :
    w1.ownsRow base 22 1 v' (k + 1) (dl (upd ns k y) (k + 1)) ∧ Below base w w1 := by
  rw [dl_snoc] at hown'
  exact ⟨hown', (hb.alloc hsz _).grown hgrow (by simp; omega) (fun j hj => (hown.lt j hj).1)⟩

theorem made_of {w w' : World} {base : Nat} {v : Value} {n : Nat} {d : Nat → Nat} (hbs : w.heap.size ≤ base) (h : w'.ownsRow base 22 1 v n (dl d n)) (hn : 0 < n) (hd : ∀ j, j < n → d j < 65536) (hb : Below w.heap.size w w') : MkDg n (vd d n) w (.returned v) w' := by
  obtain ⟨hl, h1⟩ := h
  rcases h1 with ⟨-, h0⟩ | ⟨g, cap, cur, rfl, hg, hc, hnc, hm, hcs, ht⟩
  · omega
  · refine ⟨g, cap, d, rfl, Nat.le_trans hbs hg, ⟨(Array.getElem?_eq_some_iff.1 hc).1, fun j hj => ?_⟩, hd, rfl, hb⟩
    rw [cell_of_row _ _ _ _ _ _ hc, ← dl_at d n j hj, ← ht]
    simp only [Nat.mul_one, List.getElem?_take, hj, if_true]
    simp

theorem and_low16 (z : Nat) (h : z < 18446744073709551616) : bits .and .u64 z 65535 = ((z % 65536 : Nat) : Int) := by
  have := bits_and_u64_nat z 65535 h (by omega)
  rw [show z &&& 65535 = z % 65536 from Nat.and_two_pow_sub_one_eq_mod z 16] at this
  exact this

theorem dg_of (x k p s : Nat) (hp : k / 4 = p) (hs : 16 * (k % 4) = s) : pN x p / 2 ^ s % 65536 = x % 115792089237316195423570985008687907853269984665640564039457584007913129639936 / 65536 ^ k % 65536 := by
  subst hp hs
  unfold pN
  have e : 18446744073709551616 = 2 ^ (16 * (k % 4)) * 2 ^ (64 - 16 * (k % 4)) := by rw [← Nat.pow_add, show 16 * (k % 4) + (64 - 16 * (k % 4)) = 64 by omega]
  have e2 : (65536 : Nat) = 2 ^ 16 := by rfl
  rw [e, Nat.mod_mul_right_div_self, e2, Nat.mod_mod_of_dvd _ (Nat.pow_dvd_pow 2 (by omega)), Nat.div_div_eq_div_mul, ← Nat.pow_add, ← Nat.pow_mul, show 64 * (k / 4) + 16 * (k % 4) = 16 * k by omega]

set_option maxRecDepth 100000 in
set_option maxHeartbeats 1000000 in
theorem digits_walk (x a0 a1 a2 a3 : Nat) (hp : ∀ p, p < 4 → (#[Value.int .u64 a0, .int .u64 a1, .int .u64 a2, .int .u64 a3] : Array Value)[p]? = some (.int .u64 (pN x p : Nat))) (w : World) :
    Calls Tryd.prog 15 #[.agg #[.int .u64 a0, .int .u64 a1, .int .u64 a2, .int .u64 a3]] w (MkDg 16 (x % 115792089237316195423570985008687907853269984665640564039457584007913129639936) w) := by
  have HP := Lib.hid hp; clear hp
  obtain ⟨i0, hi, hz0, hz1, hz2⟩ := info_parts info22
  go_enter Tryd.func15, Tryd.ntmps15
  go_wp2
  go_loopw [3, 4] (fun v i wr => ∃ k : Nat, k ≤ 16 ∧ i = .int .i64 k ∧ Hid (wr.ownsRow (w.heap.size + 1) 22 1 v k (dl (fun j => x % 115792089237316195423570985008687907853269984665640564039457584007913129639936 / 65536 ^ j % 65536) k) ∧ Below (w.heap.size + 1) (w.alloc (.cells #[Value.int .u64 a0, .int .u64 a1, .int .u64 a2, .int .u64 a3] 24)) wr))
    (fun _ i _ => 16 - (intOf i).toNat)
  case atStart =>
    refine ⟨0, by omega, rfl, Lib.hid ⟨?_, by go_grown⟩⟩
    have h := World.ownsRow_made (base := w.heap.size + 1) (e := 22) (size := 1) (w.alloc (.cells #[Value.int .u64 a0, .int .u64 a1, .int .u64 a2, .int .u64 a3] 24)) #[] 0 (by simp) (by decide) (by simp)
    rw [World.size_alloc] at h
    exact h
  case round =>
    obtain ⟨k, hk, rfl, H⟩ := hrel
    have hk0 : (0 : Int) ≤ k := by omega
    have hk1 : (k : Int) ≤ 16 := by omega
    by_cases hlt : k < 16
    · obtain ⟨p, hp⟩ : ∃ p : Nat, (k : Int) / 4 = (p : Int) := ⟨k / 4, by omega⟩
      obtain ⟨s, hs⟩ : ∃ s : Nat, 16 * ((k : Int) % 4) = (s : Int) := ⟨16 * (k % 4), by omega⟩
      have hp0 : (0 : Int) ≤ p := by omega
      have hp1 : (p : Int) < 4 := by omega
      have hs0 : (0 : Int) ≤ s := by omega
      have hs1 : (s : Int) < 64 := by omega
      have ca : wr.cell? ⟨w.heap.size, p, none⟩ = some (.int .u64 (pN x p : Nat)) := (H.out.2.cell (p := ⟨w.heap.size, p, none⟩) (Nat.lt_succ_self _)).trans ((cell_of_row _ _ p _ _ _ (heap_alloc_new w _)).trans (HP.out p (by omega)))
      have hpl := pN_le x p
      have hv : bits .and .u64 (((pN x p : Nat) : Int) / 2 ^ s) 65535 = ((x % 115792089237316195423570985008687907853269984665640564039457584007913129639936 / 65536 ^ k % 65536 : Nat) : Int) := by
        rw [← dg_of x k p s (by omega) (by omega)]
        have h := and_low16 (pN x p / 2 ^ s) (Nat.lt_of_le_of_lt (Nat.div_le_self _ _) hpl)
        simpa using h
      have HV := Lib.hid hv; clear hv
      go_wp2_with (at_builtin; refine wpList_append_own _ rfl _ _ 38 rfl (w.heap.size + 1) 22 i0 (.int .u64 0) 1 8 Tryd.underlying38 hi hz0 hz1 hz2 rfl (by decide) _ _ _ rfl (H.out.1.alloc _) ⟨wr.heap.size, 0, none⟩ 1 1 [.int .u64 (bits .and .u64 (((pN x p : Nat) : Int) / 2 ^ s) 65535)] rfl rfl ?c1 ?c2 ?c3 ?c4 ?c5 ?_)
      case c1 => exact cell_one_new _ _ _
      case c2 => intro u hu; simp at hu; subst hu; rfl
      case c3 => unfold maxLen; omega
      case c4 => omega
      case c5 => have := H.out.2.size; simp at this; simp; omega
      intro v' w1 hown' hgrow _
      rw [HV.out] at hown'
      have HN := Lib.hid (push_rel H.out.1 H.out.2 (by have := H.out.2.size; simp at this; omega) hown' hgrow)
      clear hown' hgrow
      go_wp2
      go_roundw
      case rel =>
        refine ⟨k + 1, by omega, by go_num, Lib.hid ⟨?_, HN.out.2⟩⟩
        have e : dl (upd (fun j => x % 115792089237316195423570985008687907853269984665640564039457584007913129639936 / 65536 ^ j % 65536) k (x % 115792089237316195423570985008687907853269984665640564039457584007913129639936 / 65536 ^ k % 65536)) (k + 1) = dl (fun j => x % 115792089237316195423570985008687907853269984665640564039457584007913129639936 / 65536 ^ j % 65536) (k + 1) := by
          unfold dl; apply List.map_congr_left; intro j _; unfold upd; by_cases h : j = k <;> simp [h]
        rw [← e]; exact HN.out.1
      case measure => simp [intOf]; omega
    · obtain rfl : k = 16 := by omega
      go_wp2
      go_ret
      have R := made_of (w := w) (by omega) H.out.1 (by omega) (fun j _ => by omega) (Below.trans (by go_grown) (H.out.2.mono (by omega)))
      rw [vd_mod] at R
      rw [show x % 115792089237316195423570985008687907853269984665640564039457584007913129639936 % 65536 ^ 16 = x % 115792089237316195423570985008687907853269984665640564039457584007913129639936 from Nat.mod_mod _ _] at R
      exact R

-- WHAT Digits COMES TO.
theorem digits_any (x : Nat) (w : World) : Calls Tryd.prog 15 #[wv x] w (MkDg 16 (x % 115792089237316195423570985008687907853269984665640564039457584007913129639936) w) := by
  refine digits_walk x _ _ _ _ (fun p hp => ?_) w
  have h : p = 0 ∨ p = 1 ∨ p = 2 ∨ p = 3 := by omega
  rcases h with rfl | rfl | rfl | rfl
  · simp [pN]
  · simp [pN]; omega
  · simp [pN]; omega
  · simp [pN]; omega
end Go.Proofs.YtmhgnlngcjckbaaDoor
namespace Go.Proofs.YtmhgnlngcjckbaaDoor
open Go.RowKit

/-- One round's reckoning. -/
theorem sum_step {P x c N A B : Nat} (h : N + P * c = A + B) (ak bk : Nat) (hx : x = c + ak + bk) : N + P * (x % 65536) + P * 65536 * (x / 65536) = (A + P * ak) + (B + P * bk) := by
  have e : x = x % 65536 + 65536 * (x / 65536) := by omega
  have e1 : P * x = P * (x % 65536) + P * 65536 * (x / 65536) := by
    rw [Nat.mul_assoc, ← Nat.mul_add, ← e]
  have e2 : P * x = P * c + P * ak + P * bk := by rw [hx, Nat.mul_add, Nat.mul_add]
  omega

/-- What the loop of Sum keeps. -/
def SumRel (w : World) (n m k c : Nat) (da db : Nat → Nat) (v : Value) (wr : World) : Prop :=
  c ≤ 1 ∧ ∃ ns : Nat → Nat, wr.ownsRow w.heap.size 22 1 v k (dl ns k) ∧ (∀ j, j < k → ns j < 65536) ∧ vd ns k + 65536 ^ k * c = vd (pad da n) k + vd (pad db m) k ∧ Below w.heap.size w wr ∧ w.heap.size < wr.heap.size

theorem sum_next {w wr w1 : World} {n m k c x : Nat} {da db ns : Nat → Nat} {v v' X : Value} (hc : c ≤ 1) (hown : wr.ownsRow w.heap.size 22 1 v k (dl ns k)) (hns : ∀ j, j < k → ns j < 65536)
    (hv : vd ns k + 65536 ^ k * c = vd (pad da n) k + vd (pad db m) k) (hb : Below w.heap.size w wr) (hz : w.heap.size < wr.heap.size) (hx : x = c + pad da n k + pad db m k) (ha : pad da n k < 65536) (hbd : pad db m k < 65536)
    (hown' : w1.ownsRow w.heap.size 22 1 v' (k + 1) (dl ns k ++ [.int .u64 ((x % 65536 : Nat) : Int)])) (hgrow : (wr.alloc (.cells #[X] 22)).grownBy w1 v.ownBlock) :
    SumRel w n m (k + 1) (x / 65536) da db v' w1 := by
  obtain ⟨ho, hb'⟩ := push_rel hown hb (by omega) hown' hgrow
  have hs := hgrow.size
  simp at hs
  refine ⟨by omega, upd ns k (x % 65536), ho, upd_lt hns (by omega), ?_, hb', by omega⟩
  rw [vd_upd, Nat.pow_succ]
  exact sum_step hv _ _ hx

set_option maxRecDepth 100000 in
set_option maxHeartbeats 4000000 in
theorem sum_any (ba ca bb cb n m : Nat) (da db : Nat → Nat) (hn : (n : Int) ≤ 1000000) (hm : (m : Int) ≤ 1000000) (ha : ∀ j, j < n → da j < 65536) (hb : ∀ j, j < m → db j < 65536) (w : World) (hA : Dg w ba n da) (hB : Dg w bb m db) :
    Calls Tryd.prog 26 #[.slice (some ⟨ba, 0, none⟩) n ca, .slice (some ⟨bb, 0, none⟩) m cb] w (MkDg (max n m + 1) (vd da n + vd db m) w) := by
  have Ha := Lib.hid ha; clear ha
  have Hb := Lib.hid hb; clear hb
  have HA := Lib.hid hA; clear hA
  have HB := Lib.hid hB; clear hB
  obtain ⟨i0, hi, hz0, hz1, hz2⟩ := info_parts info22
  go_enter Tryd.func26, Tryd.ntmps26
  go_wp2
  go_loopw [5, 6, 7] (fun v cv i wr => ∃ k c : Nat, k ≤ max n m ∧ i = .int .i64 k ∧ cv = .int .u64 c ∧ Hid (SumRel w n m k c da db v wr)) (fun _ _ i _ => max n m - (intOf i).toNat)
  case atStart =>
    refine ⟨0, 0, by omega, rfl, rfl, Lib.hid ⟨by omega, da, ?_, by omega, rfl, by go_grown, by simp⟩⟩
    exact World.ownsRow_made (base := w.heap.size) (e := 22) (size := 1) w #[] 0 (by simp) (by decide) (by simp)
  case round =>
    obtain ⟨k, c, hk, rfl, rfl, H⟩ := hrel
    have hk0 : (0 : Int) ≤ k := by omega
    have hk1 : (k : Int) ≤ 1000000 := by omega
    obtain ⟨hc, ns, hown, hns, hval, hbel, hsz⟩ := H.out
    have hc0 : (0 : Int) ≤ c := by omega
    have hc1 : (c : Int) ≤ 1 := by omega
    have HO := Lib.hid hown; clear hown
    have HNS := Lib.hid hns; clear hns
    have HVAL := Lib.hid hval; clear hval
    have HBEL := Lib.hid hbel; clear hbel
    have HSZ := Lib.hid hsz; clear hsz
    have HC := Lib.hid hc; clear hc H
    by_cases h1 : k < n
    · by_cases h2 : k < m
      · have xa : ((da k : Nat) : Int) ≤ 65535 := by have := Ha.out k (by omega); omega
        have xa0 : (0 : Int) ≤ (da k : Nat) := by omega
        have ea : wr.cell? ⟨ba, k, none⟩ = some (.int .u64 (da k : Nat)) := (HBEL.out.cell (p := ⟨ba, k, none⟩) HA.out.1).trans (HA.out.2 k (by omega))
        have hka : (k : Int) < (n : Int) := by omega
        have xb : ((db k : Nat) : Int) ≤ 65535 := by have := Hb.out k (by omega); omega
        have xb0 : (0 : Int) ≤ (db k : Nat) := by omega
        have eb : wr.cell? ⟨bb, k, none⟩ = some (.int .u64 (db k : Nat)) := (HBEL.out.cell (p := ⟨bb, k, none⟩) HB.out.1).trans (HB.out.2 k (by omega))
        have hkb : (k : Int) < (m : Int) := by omega
        obtain ⟨x, hx⟩ : ∃ x : Nat, c + da k + db k = x := ⟨_, rfl⟩
        have hxi : (c : Int) + (da k : Nat) + (db k : Nat) = (x : Int) := by omega
        have hxb : x < 200000 := by have := HC.out; omega
        have hand : bits .and .u64 (x : Int) 65535 = ((x % 65536 : Nat) : Int) := and_low16 x (by omega)
        have hxl : (x : Int) < 200000 := by omega
        have hx0 : (0 : Int) ≤ x := by omega
        have HAND := Lib.hid hand; clear hand
        have HX := Lib.hid hx; clear hx
        go_wp2_with (at_builtin; refine wpList_append_own _ rfl (.tmp 43) (.tmp 46) 38 rfl w.heap.size 22 i0 (.int .u64 0) 1 8 Tryd.underlying38 hi hz0 hz1 hz2 rfl (by decide) _ _ _ rfl (HO.out.alloc _) ⟨wr.heap.size, 0, none⟩ 1 1 [.int .u64 (bits .and .u64 (x : Int) 65535)] rfl rfl ?d111 ?d112 ?d113 ?d114 ?d115 ?_)
        try (case d111 => exact cell_one_new _ _ _)
        try (case d112 => first | rfl | (intro u hu; simp at hu; subst hu; rfl))
        try (case d113 => unfold maxLen; omega)
        try (case d114 => omega)
        try (case d115 => have := HSZ.out; first | omega | (simp; omega))
        intro v' w1 hown' hgrow _
        rw [HAND.out] at hown'
        have ea' : pad da n k = da k := by simp only [pad]; rw [if_pos (by omega)]
        have eb' : pad db m k = db k := by simp only [pad]; rw [if_pos (by omega)]
        have HN := Lib.hid (sum_next (x := x) (da := da) (db := db) (n := n) (m := m) HC.out HO.out HNS.out HVAL.out HBEL.out HSZ.out (by rw [ea', eb']; have := HX.out; omega) (by rw [ea']; omega) (by rw [eb']; omega) hown' hgrow)
        clear hown' hgrow ea' eb'
        go_wp2
        go_roundw
        case rel => exact ⟨k + 1, x / 65536, by omega, by go_num, by go_num, HN⟩
        case measure => simp [intOf]; omega
      · have xa : ((da k : Nat) : Int) ≤ 65535 := by have := Ha.out k (by omega); omega
        have xa0 : (0 : Int) ≤ (da k : Nat) := by omega
        have ea : wr.cell? ⟨ba, k, none⟩ = some (.int .u64 (da k : Nat)) := (HBEL.out.cell (p := ⟨ba, k, none⟩) HA.out.1).trans (HA.out.2 k (by omega))
        have hka : (k : Int) < (n : Int) := by omega
        have hkb : ¬ (k : Int) < (m : Int) := by omega
        obtain ⟨x, hx⟩ : ∃ x : Nat, c + da k = x := ⟨_, rfl⟩
        have hxi : (c : Int) + (da k : Nat) = (x : Int) := by omega
        have hxb : x < 200000 := by have := HC.out; omega
        have hand : bits .and .u64 (x : Int) 65535 = ((x % 65536 : Nat) : Int) := and_low16 x (by omega)
        have hxl : (x : Int) < 200000 := by omega
        have hx0 : (0 : Int) ≤ x := by omega
        have HAND := Lib.hid hand; clear hand
        have HX := Lib.hid hx; clear hx
        go_wp2_with (at_builtin; refine wpList_append_own _ rfl (.tmp 43) (.tmp 46) 38 rfl w.heap.size 22 i0 (.int .u64 0) 1 8 Tryd.underlying38 hi hz0 hz1 hz2 rfl (by decide) _ _ _ rfl (HO.out.alloc _) ⟨wr.heap.size, 0, none⟩ 1 1 [.int .u64 (bits .and .u64 (x : Int) 65535)] rfl rfl ?d101 ?d102 ?d103 ?d104 ?d105 ?_)
        try (case d101 => exact cell_one_new _ _ _)
        try (case d102 => first | rfl | (intro u hu; simp at hu; subst hu; rfl))
        try (case d103 => unfold maxLen; omega)
        try (case d104 => omega)
        try (case d105 => have := HSZ.out; first | omega | (simp; omega))
        intro v' w1 hown' hgrow _
        rw [HAND.out] at hown'
        have ea' : pad da n k = da k := by simp only [pad]; rw [if_pos (by omega)]
        have eb' : pad db m k = 0 := by simp only [pad]; rw [if_neg (by omega)]
        have HN := Lib.hid (sum_next (x := x) (da := da) (db := db) (n := n) (m := m) HC.out HO.out HNS.out HVAL.out HBEL.out HSZ.out (by rw [ea', eb']; have := HX.out; omega) (by rw [ea']; omega) (by rw [eb']; omega) hown' hgrow)
        clear hown' hgrow ea' eb'
        go_wp2
        go_roundw
        case rel => exact ⟨k + 1, x / 65536, by omega, by go_num, by go_num, HN⟩
        case measure => simp [intOf]; omega
    · by_cases h2 : k < m
      · have hka : ¬ (k : Int) < (n : Int) := by omega
        have xb : ((db k : Nat) : Int) ≤ 65535 := by have := Hb.out k (by omega); omega
        have xb0 : (0 : Int) ≤ (db k : Nat) := by omega
        have eb : wr.cell? ⟨bb, k, none⟩ = some (.int .u64 (db k : Nat)) := (HBEL.out.cell (p := ⟨bb, k, none⟩) HB.out.1).trans (HB.out.2 k (by omega))
        have hkb : (k : Int) < (m : Int) := by omega
        obtain ⟨x, hx⟩ : ∃ x : Nat, c + db k = x := ⟨_, rfl⟩
        have hxi : (c : Int) + (db k : Nat) = (x : Int) := by omega
        have hxb : x < 200000 := by have := HC.out; omega
        have hand : bits .and .u64 (x : Int) 65535 = ((x % 65536 : Nat) : Int) := and_low16 x (by omega)
        have hxl : (x : Int) < 200000 := by omega
        have hx0 : (0 : Int) ≤ x := by omega
        have HAND := Lib.hid hand; clear hand
        have HX := Lib.hid hx; clear hx
        go_wp2_with (at_builtin; refine wpList_append_own _ rfl (.tmp 43) (.tmp 46) 38 rfl w.heap.size 22 i0 (.int .u64 0) 1 8 Tryd.underlying38 hi hz0 hz1 hz2 rfl (by decide) _ _ _ rfl (HO.out.alloc _) ⟨wr.heap.size, 0, none⟩ 1 1 [.int .u64 (bits .and .u64 (x : Int) 65535)] rfl rfl ?d011 ?d012 ?d013 ?d014 ?d015 ?_)
        try (case d011 => exact cell_one_new _ _ _)
        try (case d012 => first | rfl | (intro u hu; simp at hu; subst hu; rfl))
        try (case d013 => unfold maxLen; omega)
        try (case d014 => omega)
        try (case d015 => have := HSZ.out; first | omega | (simp; omega))
        intro v' w1 hown' hgrow _
        rw [HAND.out] at hown'
        have ea' : pad da n k = 0 := by simp only [pad]; rw [if_neg (by omega)]
        have eb' : pad db m k = db k := by simp only [pad]; rw [if_pos (by omega)]
        have HN := Lib.hid (sum_next (x := x) (da := da) (db := db) (n := n) (m := m) HC.out HO.out HNS.out HVAL.out HBEL.out HSZ.out (by rw [ea', eb']; have := HX.out; omega) (by rw [ea']; omega) (by rw [eb']; omega) hown' hgrow)
        clear hown' hgrow ea' eb'
        go_wp2
        go_roundw
        case rel => exact ⟨k + 1, x / 65536, by omega, by go_num, by go_num, HN⟩
        case measure => simp [intOf]; omega
      · have hka : ¬ (k : Int) < (n : Int) := by omega
        have hkb : ¬ (k : Int) < (m : Int) := by omega
        go_wp2_with (at_builtin; refine wpList_append_own _ rfl (.tmp 50) (.tmp 52) 38 rfl w.heap.size 22 i0 (.int .u64 0) 1 8 Tryd.underlying38 hi hz0 hz1 hz2 rfl (by decide) _ _ _ rfl (HO.out.alloc _) ⟨wr.heap.size, 0, none⟩ 1 1 [.int .u64 (c : Int)] rfl rfl ?e1 ?e2 ?e3 ?e4 ?e5 ?_)
        try (case e1 => exact cell_one_new _ _ _)
        try (case e2 => first | rfl | (intro u hu; simp at hu; subst hu; rfl))
        try (case e3 => unfold maxLen; omega)
        try (case e4 => omega)
        try (case e5 => have := HSZ.out; first | omega | (simp; omega))
        intro v' w1 hown' hgrow _
        obtain rfl : k = max n m := by omega
        obtain ⟨ho, hb'⟩ := push_rel HO.out HBEL.out (by have := HSZ.out; omega) hown' hgrow
        have R := made_of (Nat.le_refl _) ho (by omega) (upd_lt HNS.out (by have := HC.out; omega)) hb'
        rw [vd_upd, HVAL.out, vd_pad _ _ _ (by omega), vd_pad _ _ _ (by omega)] at R
        have HR := Lib.hid R
        clear hown' hgrow ho hb' R
        go_wp2
        go_ret
        exact HR.out
end Go.Proofs.YtmhgnlngcjckbaaDoor
namespace Go.Proofs.YtmhgnlngcjckbaaDoor
open Go.RowKit

theorem pow_split {s t : Nat} (h : s + t = 64) : 2 ^ s * 2 ^ t = 18446744073709551616 := by rw [← Nat.pow_add, h]

/-- A part shifted up beside what came out of the part below it. -/
theorem cmb_up {p q s t : Nat} (hq : q < 18446744073709551616) (h : s + t = 64) :
    bits .or .u64 (IntKind.u64.wrap ((p : Int) * 2 ^ s)) ((q : Int) / 2 ^ t) = ((p * 2 ^ s % 18446744073709551616 + q / 2 ^ t : Nat) : Int) := by
  have hD := pow_split h
  have hT : 0 < 2 ^ t := Nat.two_pow_pos t
  have hqs : q / 2 ^ t < 2 ^ s := by rw [Nat.div_lt_iff_lt_mul hT, hD]; exact hq
  have e1 : IntKind.u64.wrap ((p : Int) * 2 ^ s) = ((p * 2 ^ s % 18446744073709551616 : Nat) : Int) := by
    rw [IntKind.wrap_u64]
    have : ((p : Int) * 2 ^ s) = ((p * 2 ^ s : Nat) : Int) := by simp
    rw [this]; omega
  have e2 : ((q : Int) / 2 ^ t) = ((q / 2 ^ t : Nat) : Int) := by simp
  have e3 : p * 2 ^ s % 18446744073709551616 = 2 ^ s * (p % 2 ^ t) := by
    rw [← hD, Nat.mul_comm p, Nat.mul_mod_mul_left]
  have hl : p * 2 ^ s % 18446744073709551616 < 18446744073709551616 := Nat.mod_lt _ (by omega)
  have hr : q / 2 ^ t < 18446744073709551616 := Nat.lt_of_le_of_lt (Nat.div_le_self _ _) hq
  rw [e1, e2, bits_or_u64_nat _ _ hl hr, e3, ← Nat.two_pow_add_eq_or_of_lt hqs]

/-- A part shifted down beside what came out of the part above it. -/
theorem cmb_down {p q s t : Nat} (hp : p < 18446744073709551616) (h : s + t = 64) :
    bits .or .u64 ((p : Int) / 2 ^ s) (IntKind.u64.wrap ((q : Int) * 2 ^ t)) = ((p / 2 ^ s + q * 2 ^ t % 18446744073709551616 : Nat) : Int) := by
  have hD := pow_split h
  have hS : 0 < 2 ^ s := Nat.two_pow_pos s
  have hps : p / 2 ^ s < 2 ^ t := by rw [Nat.div_lt_iff_lt_mul hS, Nat.mul_comm, hD]; exact hp
  have e1 : IntKind.u64.wrap ((q : Int) * 2 ^ t) = ((q * 2 ^ t % 18446744073709551616 : Nat) : Int) := by
    rw [IntKind.wrap_u64]
    have : ((q : Int) * 2 ^ t) = ((q * 2 ^ t : Nat) : Int) := by simp
    rw [this]; omega
  have e2 : ((p : Int) / 2 ^ s) = ((p / 2 ^ s : Nat) : Int) := by simp
  have e3 : q * 2 ^ t % 18446744073709551616 = 2 ^ t * (q % 2 ^ s) := by
    rw [← hD, Nat.mul_comm (2 ^ s), Nat.mul_comm q, Nat.mul_mod_mul_left]
  have hl : q * 2 ^ t % 18446744073709551616 < 18446744073709551616 := Nat.mod_lt _ (by omega)
  have hr : p / 2 ^ s < 18446744073709551616 := Nat.lt_of_le_of_lt (Nat.div_le_self _ _) hp
  rw [e1, e2, bits_or_u64_nat _ _ hr hl, e3, Nat.or_comm, ← Nat.two_pow_add_eq_or_of_lt hps, Nat.add_comm]

/-- A part times 2^s: what stays, and what goes over. -/
theorem up_split {p s t : Nat} (h : s + t = 64) : p * 2 ^ s = p * 2 ^ s % 18446744073709551616 + 18446744073709551616 * (p / 2 ^ t) := by
  have hD := pow_split h
  have hS : 0 < 2 ^ s := Nat.two_pow_pos s
  have e : p * 2 ^ s / 18446744073709551616 = p / 2 ^ t := by
    rw [← hD, Nat.mul_comm p, Nat.mul_div_mul_left _ _ hS]
  have := Nat.div_add_mod (p * 2 ^ s) 18446744073709551616
  rw [e] at this
  omega

theorem cmb_lt {p q s t : Nat} (hq : q < 18446744073709551616) (h : s + t = 64) : p * 2 ^ s % 18446744073709551616 + q / 2 ^ t < 18446744073709551616 := by
  have hD := pow_split h
  have hT : 0 < 2 ^ t := Nat.two_pow_pos t
  have hqs : q / 2 ^ t < 2 ^ s := by rw [Nat.div_lt_iff_lt_mul hT, hD]; exact hq
  have e3 : p * 2 ^ s % 18446744073709551616 = 2 ^ s * (p % 2 ^ t) := by
    rw [← hD, Nat.mul_comm p, Nat.mul_mod_mul_left]
  have hm : p % 2 ^ t < 2 ^ t := Nat.mod_lt _ hT
  have : 2 ^ s * (p % 2 ^ t) + 2 ^ s ≤ 2 ^ s * 2 ^ t := by
    rw [← Nat.mul_succ]; exact Nat.mul_le_mul_left _ hm
  omega

theorem n4_up (p0 p1 p2 p3 : Nat) {s t : Nat} (h : s + t = 64) :
    n4 (p0 * 2 ^ s % 18446744073709551616 + 0 / 2 ^ t) (p1 * 2 ^ s % 18446744073709551616 + p0 / 2 ^ t) (p2 * 2 ^ s % 18446744073709551616 + p1 / 2 ^ t) (p3 * 2 ^ s % 18446744073709551616 + p2 / 2 ^ t)
      + 115792089237316195423570985008687907853269984665640564039457584007913129639936 * (p3 / 2 ^ t) = n4 p0 p1 p2 p3 * 2 ^ s := by
  have h0 := up_split (p := p0) h
  have h1 := up_split (p := p1) h
  have h2 := up_split (p := p2) h
  have h3 := up_split (p := p3) h
  have e : n4 p0 p1 p2 p3 * 2 ^ s = n4 (p0 * 2 ^ s) (p1 * 2 ^ s) (p2 * 2 ^ s) (p3 * 2 ^ s) := by unfold n4; grind
  rw [e, Nat.zero_div]
  unfold n4
  generalize p0 * 2 ^ s = c0 at *
  generalize p1 * 2 ^ s = c1 at *
  generalize p2 * 2 ^ s = c2 at *
  generalize p3 * 2 ^ s = c3 at *
  omega

/-- Down: the quotient by 2^s of four parts, with more parts above them. -/
theorem n4_down (p0 p1 p2 p3 p4 : Nat) {s t : Nat} (h : s + t = 64) :
    n4 (p0 / 2 ^ s + p1 * 2 ^ t % 18446744073709551616) (p1 / 2 ^ s + p2 * 2 ^ t % 18446744073709551616) (p2 / 2 ^ s + p3 * 2 ^ t % 18446744073709551616) (p3 / 2 ^ s + p4 * 2 ^ t % 18446744073709551616)
      = n4 p0 p1 p2 p3 / 2 ^ s + 6277101735386680763835789423207666416102355444464034512896 * (p4 * 2 ^ t % 18446744073709551616) := by
  have hD := pow_split h
  have hS : 0 < 2 ^ s := Nat.two_pow_pos s
  have h1 := up_split (p := p1) (s := t) (t := s) (by omega)
  have h2 := up_split (p := p2) (s := t) (t := s) (by omega)
  have h3 := up_split (p := p3) (s := t) (t := s) (by omega)
  -- the whole times 2^t, by parts
  have e : n4 p0 p1 p2 p3 = p0 + 2 ^ s * (p1 * 2 ^ t + 18446744073709551616 * (p2 * 2 ^ t) + 340282366920938463463374607431768211456 * (p3 * 2 ^ t)) := by
    unfold n4
    have : ∀ p, 18446744073709551616 * p = 2 ^ s * (p * 2 ^ t) := fun p => by rw [← hD]; grind
    have a1 := this p1
    have a2 := this (18446744073709551616 * p2)
    have a3 := this (340282366920938463463374607431768211456 * p3)
    have b2 : 18446744073709551616 * p2 * 2 ^ t = 18446744073709551616 * (p2 * 2 ^ t) := by grind
    have b3 : 340282366920938463463374607431768211456 * p3 * 2 ^ t = 340282366920938463463374607431768211456 * (p3 * 2 ^ t) := by grind
    rw [b2] at a2
    rw [b3] at a3
    rw [Nat.mul_add, Nat.mul_add, ← a1, ← a2, ← a3]
    omega
  rw [e, Nat.add_mul_div_left _ _ hS]
  unfold n4
  generalize p1 * 2 ^ t = c1 at *
  generalize p2 * 2 ^ t = c2 at *
  generalize p3 * 2 ^ t = c3 at *
  generalize p4 * 2 ^ t = c4 at *
  omega
end Go.Proofs.YtmhgnlngcjckbaaDoor
namespace Go.Proofs.YtmhgnlngcjckbaaDoor
open Go.RowKit

theorem part_neg (i : Int) (b : Nat) (h : i < 0) (w : World) : Calls Tryd.prog 50 #[.int .i64 i, .pointer (some ⟨b, 0, none⟩)] w fun e w' => e = .returned (.int .u64 0) ∧ w' = w := by
  go_enter Tryd.func50, Tryd.ntmps50
  go_wp2
  go_ret
  exact ⟨rfl, rfl⟩
theorem part_at (i b : Nat) (v : Value) (h0 : (0 : Int) ≤ i) (h : (i : Int) < 4) (w : World) (hc : w.cell? ⟨b, i, none⟩ = some v) : Calls Tryd.prog 50 #[.int .i64 i, .pointer (some ⟨b, 0, none⟩)] w fun e w' => e = .returned v ∧ w' = w := by
  go_enter Tryd.func50, Tryd.ntmps50
  go_wp2
  go_ret
  exact ⟨rfl, rfl⟩

/-- A region of reads and quiet calls ahead of one store: in the text's order, behind one draw. -/
theorem region_still {P : Program} {id : Nat} {Q : Exit → Act → World → Prop} {a : Act} {w : World} {l : List Oper} (n : Nat) (hm : P.follows .mixedOrders = true) (hB : Region.lexTailB .any l.toArray n = true)
    (h : wpStill P l.toArray w.drew (fun a' => wpList P l.toArray Q (l.drop n) a' w.drew) (l.take n) a) : (Code.region id l.toArray true).wp P Q a w := wp_region_still_tail n hm hB h

set_option maxRecDepth 100000 in
set_option maxHeartbeats 2000000 in
theorem shl_walk (k0 k1 k2 k3 a0 a1 a2 a3 pm p0 p1 p2 p3 s t : Nat) (wh jm j0 j1 j2 j3 : Int) (h0 : (0 : Int) ≤ s) (h64 : (s : Int) < 64)
    (ht : IntKind.i64.wrap (64 - (s : Int)) = (t : Int)) (ht64 : (t : Int) ≤ 64)
    (e0 : IntKind.i64.wrap (-wh) = j0) (e1 : IntKind.i64.wrap (1 - wh) = j1) (e2 : IntKind.i64.wrap (2 - wh) = j2) (e3 : IntKind.i64.wrap (3 - wh) = j3)
    (g0 : IntKind.i64.wrap (j0 - 1) = jm) (g1 : IntKind.i64.wrap (j1 - 1) = j0) (g2 : IntKind.i64.wrap (j2 - 1) = j1) (g3 : IntKind.i64.wrap (j3 - 1) = j2) (w : World)
    (hC : ∀ (b : Nat) (W : World), W.cell? ⟨b, 0, none⟩ = some (.int .u64 a0) → W.cell? ⟨b, 1, none⟩ = some (.int .u64 a1) → W.cell? ⟨b, 2, none⟩ = some (.int .u64 a2) → W.cell? ⟨b, 3, none⟩ = some (.int .u64 a3) →
      (Calls Tryd.prog 50 #[.int .i64 jm, .pointer (some ⟨b, 0, none⟩)] W fun e w' => e = .returned (.int .u64 pm) ∧ w' = W) ∧
      (Calls Tryd.prog 50 #[.int .i64 j0, .pointer (some ⟨b, 0, none⟩)] W fun e w' => e = .returned (.int .u64 p0) ∧ w' = W) ∧
      (Calls Tryd.prog 50 #[.int .i64 j1, .pointer (some ⟨b, 0, none⟩)] W fun e w' => e = .returned (.int .u64 p1) ∧ w' = W) ∧
      (Calls Tryd.prog 50 #[.int .i64 j2, .pointer (some ⟨b, 0, none⟩)] W fun e w' => e = .returned (.int .u64 p2) ∧ w' = W) ∧
      (Calls Tryd.prog 50 #[.int .i64 j3, .pointer (some ⟨b, 0, none⟩)] W fun e w' => e = .returned (.int .u64 p3) ∧ w' = W))
    (hS : ∀ w, Calls Tryd.prog 49 #[.agg #[.int .u64 k0, .int .u64 k1, .int .u64 k2, .int .u64 k3]] w fun e w' => e = .returned (.tuple #[.int .i64 wh, .int .i64 s]) ∧ Below w.heap.size w w') :
    Calls Tryd.prog 33 #[.agg #[.int .u64 k0, .int .u64 k1, .int .u64 k2, .int .u64 k3], .agg #[.int .u64 a0, .int .u64 a1, .int .u64 a2, .int .u64 a3]] w fun e w' => 
      e = .returned (.agg #[.int .u64 (bits .or .u64 (IntKind.u64.wrap ((p0 : Int) * 2 ^ s)) ((pm : Int) / 2 ^ t)), .int .u64 (bits .or .u64 (IntKind.u64.wrap ((p1 : Int) * 2 ^ s)) ((p0 : Int) / 2 ^ t)), .int .u64 (bits .or .u64 (IntKind.u64.wrap ((p2 : Int) * 2 ^ s)) ((p1 : Int) / 2 ^ t)), .int .u64 (bits .or .u64 (IntKind.u64.wrap ((p3 : Int) * 2 ^ s)) ((p2 : Int) / 2 ^ t))]) ∧ Below w.heap.size w w' := by
  have HC := Lib.hid hC; clear hC
  have G0 := Lib.hid g0; clear g0
  have G1 := Lib.hid g1; clear g1
  have G2 := Lib.hid g2; clear g2
  have G3 := Lib.hid g3; clear g3
  go_enter Tryd.func33, Tryd.ntmps33
  go_wp2_with fail
  refine (hS _).mono ?_
  rintro e w1 ⟨rfl, hb⟩
  obtain ⟨x0, -, -⟩ := after1 (b := w.heap.size + 1) (i := 0) (v := .int .u64 a0) hb (by simp) (by go_cell) (by go_cell)
  obtain ⟨x1, -, -⟩ := after1 (b := w.heap.size + 1) (i := 1) (v := .int .u64 a1) hb (by simp) (by go_cell) (by go_cell)
  obtain ⟨x2, -, -⟩ := after1 (b := w.heap.size + 1) (i := 2) (v := .int .u64 a2) hb (by simp) (by go_cell) (by go_cell)
  obtain ⟨x3, -, -⟩ := after1 (b := w.heap.size + 1) (i := 3) (v := .int .u64 a3) hb (by simp) (by go_cell) (by go_cell)
  obtain ⟨⟨q0, q1, q2, q3⟩, ⟨f0, f1, f2, f3⟩, hz, hb'⟩ := after4 (w := w) (B := w.heap.size) (w.heap.size + 1 + 1) hb (by go_grown) (by simp; omega) (by simp) (by go_cell) (by go_cell) (by go_cell) (by go_cell) (by go_cell) (by go_cell) (by go_cell) (by go_cell)
  clear hb
  have hz1 : w.heap.size + 1 < w1.heap.size := by omega
  go_wp2
  refine wp_loop_rounds 5 ?_
  rw [rounds_succ]; go_wp2
  refine region_still 19 (by kernel_rfl) (by kernel_rfl) ?_
  simp only [List.take_succ_cons, List.take_zero, List.drop_succ_cons, List.drop_zero]
  repeat still_step
  still_call (HC.out (w.heap.size + 1) _ (by go_cell) (by go_cell) (by go_cell) (by go_cell)).2.1
  have g := G0.out
  repeat still_step
  clear g
  still_call (HC.out (w.heap.size + 1) _ (by go_cell) (by go_cell) (by go_cell) (by go_cell)).1
  repeat still_step
  refine wpStill_nil ?_
  go_wp2
  rw [rounds_succ]; go_wp2
  refine region_still 19 (by kernel_rfl) (by kernel_rfl) ?_
  simp only [List.take_succ_cons, List.take_zero, List.drop_succ_cons, List.drop_zero]
  repeat still_step
  still_call (HC.out (w.heap.size + 1) _ (by go_cell) (by go_cell) (by go_cell) (by go_cell)).2.2.1
  have g := G1.out
  repeat still_step
  clear g
  still_call (HC.out (w.heap.size + 1) _ (by go_cell) (by go_cell) (by go_cell) (by go_cell)).2.1
  repeat still_step
  refine wpStill_nil ?_
  go_wp2
  rw [rounds_succ]; go_wp2
  refine region_still 19 (by kernel_rfl) (by kernel_rfl) ?_
  simp only [List.take_succ_cons, List.take_zero, List.drop_succ_cons, List.drop_zero]
  repeat still_step
  still_call (HC.out (w.heap.size + 1) _ (by go_cell) (by go_cell) (by go_cell) (by go_cell)).2.2.2.1
  have g := G2.out
  repeat still_step
  clear g
  still_call (HC.out (w.heap.size + 1) _ (by go_cell) (by go_cell) (by go_cell) (by go_cell)).2.2.1
  repeat still_step
  refine wpStill_nil ?_
  go_wp2
  rw [rounds_succ]; go_wp2
  refine region_still 19 (by kernel_rfl) (by kernel_rfl) ?_
  simp only [List.take_succ_cons, List.take_zero, List.drop_succ_cons, List.drop_zero]
  repeat still_step
  still_call (HC.out (w.heap.size + 1) _ (by go_cell) (by go_cell) (by go_cell) (by go_cell)).2.2.2.2
  have g := G3.out
  repeat still_step
  clear g
  still_call (HC.out (w.heap.size + 1) _ (by go_cell) (by go_cell) (by go_cell) (by go_cell)).2.2.2.1
  repeat still_step
  refine wpStill_nil ?_
  go_wp2
  rw [rounds_succ]; go_wp2
  refine bodyPost_ret (by simp [results, Tryd.results33, go_sem, hz, q0, q1, q2, q3]; try rfl) rfl ⟨rfl, ?_⟩
  go_grown

end Go.Proofs.YtmhgnlngcjckbaaDoor
namespace Go.Proofs.YtmhgnlngcjckbaaDoor
open Go

section
variable {P : Program} {ops : Array Oper} {md : Region.Mode} {C : World → Prop}

/-- Whatever order is picked among the first n, till all of them are done. -/
def anyHead (P : Program) (md : Region.Mode) (ops : Array Oper) (C : World → Prop) (n : Nat) (L : Array Bool → Act → Prop) : Nat → Array Bool → Act → Prop
  | 0, listed, a => L listed a
  | f + 1, listed, a => Region.ready md ops listed ≠ [] ∧ ∀ i ∈ Region.ready md ops listed, i < n ∧ qOp P ops C i (anyHead P md ops C n L f (listed.setIfInBounds i true)) a

theorem any_of_head {n g : Nat} {L : Array Bool → Act → Prop} {Q' : Exit → Act → World → Prop} (hL : ∀ listed a w, C w → L listed a → wpAny P md ops Q' g listed a w) :
    ∀ (f : Nat) (listed : Array Bool) (a : Act) (w : World), C w → anyHead P md ops C n L f listed a → wpAny P md ops Q' (f + g) listed a w
  | 0, listed, a, w, hw, h => by rw [Nat.zero_add]; exact hL _ _ _ hw h
  | f + 1, listed, a, w, hw, h => by
    rw [show f + 1 + g = (f + g) + 1 by omega]
    exact ⟨fun h0 => absurd h0 h.1, fun i hi => wpOp_of_qOp hw (fun a' w' hw' h' => any_of_head hL f _ a' w' hw' h') (h.2 i hi).2⟩

theorem head_first {n i : Nat} {oi : Oper} {v : Value} {L : Array Bool → Act → Prop} (hi : ops[i]? = some oi) (hsel : ∀ (j : Nat) (o : Oper) cs b, ops[j]? = some o → o.op ≠ .select cs b)
    (hs : Region.sinkB md ops n = true) (hc : Region.chainB md ops n = true) (hn : n < ops.size) (hin : i < n)
    (hdone : ∀ listed a, L listed a → ∀ j ∈ Region.ready md ops listed, n ≤ j) :
    ∀ (f : Nat) (listed : Array Bool) (a : Act), HeadInv md ops n listed →
      (∀ j oj, ops[j]? = some oj → j ≠ i → listed.getD j true = false → (∀ e ∈ oj.after, Region.binds md e = true → e.on ≠ i) → oi.apart ops oj = true) →
      i ∈ Region.ready md ops listed → YieldsIn P ops C oi v a →
      anyHead P md ops C n L f (listed.setIfInBounds i true) (a.put oi.dst v) → anyHead P md ops C n L (f + 1) listed a := by
  intro f
  induction f with
  | zero =>
    intro listed a inv _ hr hy H
    have hun := (mem_ready.1 hr).1
    refine ⟨fun h => (by rw [h] at hr; cases hr), fun j hj => ?_⟩
    have hjn : j < n := by
      rcases Nat.lt_or_ge j n with h | h
      · exact h
      · exact absurd hj (tail_waits hs hc hn inv _ i rfl hin hun j h)
    refine ⟨hjn, ?_⟩
    by_cases hji : j = i
    · subst hji; exact hy.qOp hi H
    · have := hdone _ _ H j (ready_mono hj hji)
      omega
  | succ f ih =>
    intro listed a inv hfree hr hy H
    have hun := (mem_ready.1 hr).1
    refine ⟨fun h => (by rw [h] at hr; cases hr), fun j hj => ?_⟩
    have hjn : j < n := by
      rcases Nat.lt_or_ge j n with h | h
      · exact h
      · exact absurd hj (tail_waits hs hc hn inv _ i rfl hin hun j h)
    refine ⟨hjn, ?_⟩
    by_cases hji : j = i
    · subst hji; exact hy.qOp hi H
    · have h1 := (H.2 j (ready_mono hj hji)).2
      obtain ⟨hjun, oj, hoj, hall⟩ := mem_ready.1 hj
      have hnot : ∀ e ∈ oj.after, Region.binds md e = true → e.on ≠ i := fun e he hb heq => by
        have h1 := hall e he hb
        rw [heq, getD_both hun] at h1
        cases h1
      have h2 := qOp_put hoj (hfree j oj hoj hji hjun hnot) (fun cs b => hsel i oi cs b hi) (fun cs b => hsel j oj cs b hoj) hy h1
      have hfree' : ∀ k ok, ops[k]? = some ok → k ≠ i → (listed.setIfInBounds j true).getD k true = false →
          (∀ e ∈ ok.after, Region.binds md e = true → e.on ≠ i) → oi.apart ops ok = true := fun k ok hk hki hun hno => by
        refine hfree k ok hk hki ?_ hno
        by_cases hjk : j = k
        · subst hjk; exact hjun
        · rw [getD_set_ne true hjk] at hun; exact hun
      refine qOp_mono (fun a' h3 => ih (listed.setIfInBounds j true) a' (inv.set hj hjn) hfree' (ready_mono hr (Ne.symm hji)) h3.1 ?_) h2
      rw [Array.setIfInBounds_comm _ _ hji]
      exact h3.2

theorem head_lex {n g : Nat} {Lq : Act → Prop} (hsel : Region.noSelect ops = true) (hs : Region.sinkB md ops n = true) (hc : Region.chainB md ops n = true) (hn : n < ops.size) :
    ∀ (l : List Oper) (k : Nat) (listed : Array Bool) (a : Act), (∀ j, j < l.length → l[j]? = ops[k + j]?) → k + l.length = n → HeadInv md ops n listed →
    Region.lexHead md ops g l.length k listed = true → wpQuiet P ops C Lq l a →
    anyHead P md ops C n (fun listed' a' => Region.seqB md ops g n listed' = true ∧ Lq a') l.length listed a
  | [], k, listed, a, _, hk, _, hB, h => by
    have : k = n := by simpa using hk
    subst this
    exact ⟨by simpa [Region.lexHead] using hB, h⟩
  | o :: l, k, listed, a, hl, hk, inv, hB, h => by
    have h0 : ops[k]? = some o := by simpa using (hl 0 (by simp)).symm
    simp only [List.length_cons, Region.lexHead, Bool.and_eq_true] at hB
    obtain ⟨⟨hr, hf⟩, hB'⟩ := hB
    have hkn : k < n := by simp only [List.length_cons] at hk; omega
    have hr' : k ∈ Region.ready md ops listed := by simpa using hr
    have hst : qOp P ops C k (wpQuiet P ops C Lq l) a := by unfold qOp; simp only [h0]; exact h
    obtain ⟨v, hy, hK⟩ := yieldsIn_of_qOp h0 hst
    exact head_first h0 (Region.noSelect_spec hsel) hs hc hn hkn (fun listed' a' hL => seqB_ready hL.1) l.length listed a inv (Region.free_spec h0 hf) hr' hy
      (head_lex hsel hs hc hn l (k + 1) _ _ (fun j hj => by have := hl (j + 1) (by simp; omega); simpa [Nat.add_assoc, Nat.add_comm 1 j] using this) (by simp only [List.length_cons] at hk; omega) (inv.set hr' hkn) hB' hK)

/-- THE LAW: a quiet head over a class of worlds, then a tail in the text's order, from any world of the class. -/
theorem region_quiet_tail {id : Nat} {Q : Exit → Act → World → Prop} {a : Act} {w : World} {l : List Oper} (n : Nat) (C : World → Prop) (hm : P.follows .mixedOrders = true) (hB : Region.lexTailB .any l.toArray n = true) (hC : C w.drew)
    (h : wpQuiet P l.toArray C (fun a' => ∀ w', C w' → wpList P l.toArray Q (l.drop n) a' w') (l.take n) a) : (Code.region id l.toArray true).wp P Q a w := by
  simp only [Region.lexTailB, Bool.and_eq_true, decide_eq_true_eq] at hB
  obtain ⟨⟨⟨⟨hsel, hn⟩, hs⟩, hc⟩, hlex⟩ := hB
  have hn' : n < l.length := by simpa using hn
  have htl : (l.take n).length = n := by simp; omega
  have hdl : (l.drop n).length = l.toArray.size - n := by simp
  have inv0 : HeadInv .any l.toArray n (Array.replicate l.toArray.size false) :=
    ⟨by simp, fun j oj _ hl => (by rw [getD_replicate_false] at hl; cases hl), fun t _ ht => getD_in (by simpa using ht) (getD_replicate_false _ _)⟩
  have H := head_lex (md := .any) (g := l.toArray.size - n) hsel hs hc hn (l.take n) 0 _ a (fun j hj => by
    have hj' : j < n := by rw [htl] at hj; exact hj
    simp [hj']) (by simpa using htl) inv0 (by rw [htl]; exact hlex) h
  refine wp_region_any hm ?_
  have := any_of_head (Q' := Q) (g := l.toArray.size - n) (fun listed a' w' hw' hL => by
    have := wpAny_of_seq (md := .any) (Q' := Q) (l.drop n) n listed a' w' (fun j => by simp [List.getElem?_drop]) (by rw [hdl]; exact hL.1) (hL.2 w' hw')
    rwa [hdl] at this) _ _ _ w.drew hC H
  rw [htl, show n + (l.toArray.size - n) = l.toArray.size by omega] at this
  exact this
end
end Go.Proofs.YtmhgnlngcjckbaaDoor
namespace Go.Proofs.YtmhgnlngcjckbaaDoor
open Go.RowKit

/-- Part p of the word of the first k digits. -/
def wpt (d : Nat → Nat) (p : Nat) : Nat → Nat
  | 0 => 0
  | k + 1 => wpt d p k + if k / 4 = p then d k * 2 ^ (16 * (k % 4)) else 0
/-- How many of the first k digits lie in part p. -/
def mm (p k : Nat) : Nat := min 4 (k - 4 * p)
theorem wpt_lt {d : Nat → Nat} (p : Nat) : ∀ k, (∀ j, j < k → d j < 65536) → wpt d p k < 2 ^ (16 * mm p k)
  | 0, _ => by simp [wpt, Nat.two_pow_pos]
  | k + 1, h => by
    have ih := wpt_lt p k (fun j hj => h j (by omega))
    have hd := h k (by omega)
    unfold wpt
    by_cases e : k / 4 = p
    · rw [if_pos e]
      have m0 : mm p k = k % 4 := by unfold mm; omega
      have m1 : mm p (k + 1) = k % 4 + 1 := by unfold mm; omega
      rw [m0] at ih
      rw [m1, show 16 * (k % 4 + 1) = 16 * (k % 4) + 16 by omega, Nat.pow_add]
      have h2 : d k * 2 ^ (16 * (k % 4)) ≤ 65535 * 2 ^ (16 * (k % 4)) := Nat.mul_le_mul_right _ (by omega)
      have e16 : (2 : Nat) ^ 16 = 65536 := by rfl
      rw [e16]
      omega
    · rw [if_neg e, Nat.add_zero]
      exact Nat.lt_of_lt_of_le ih (Nat.pow_le_pow_right (by omega) (by unfold mm; omega))
theorem wpt_64 {d : Nat → Nat} (p k : Nat) (h : ∀ j, j < k → d j < 65536) : wpt d p k < 18446744073709551616 := by
  refine Nat.lt_of_lt_of_le (wpt_lt p k h) ?_
  have e : 18446744073709551616 = 2 ^ 64 := by rfl
  rw [e]
  exact Nat.pow_le_pow_right (by omega) (by unfold mm; omega)
theorem wlow {d : Nat → Nat} {k p s : Nat} (hp : k / 4 = p) (hs : 16 * (k % 4) = s) (h : ∀ j, j < k → d j < 65536) : wpt d p k < 2 ^ s := by
  have := wpt_lt (d := d) p k h
  rwa [show mm p k = k % 4 by unfold mm; omega, hs] at this
theorem wpt_n4 {d : Nat → Nat} : ∀ k, k ≤ 16 → n4 (wpt d 0 k) (wpt d 1 k) (wpt d 2 k) (wpt d 3 k) = vd d k
  | 0, _ => rfl
  | k + 1, h => by
    have ih := wpt_n4 (d := d) k (by omega)
    have e : 65536 ^ k * d k = 2 ^ (64 * (k / 4)) * (d k * 2 ^ (16 * (k % 4))) := by
      rw [show (65536 : Nat) = 2 ^ 16 by rfl, ← Nat.pow_mul, show 16 * k = 64 * (k / 4) + 16 * (k % 4) by omega, Nat.pow_add, Nat.mul_assoc, Nat.mul_comm (2 ^ (16 * (k % 4)))]
    simp only [wpt, vd]
    rw [e, ← ih]
    generalize d k * 2 ^ (16 * (k % 4)) = y
    have c : k / 4 = 0 ∨ k / 4 = 1 ∨ k / 4 = 2 ∨ k / 4 = 3 := by omega
    rcases c with c | c | c | c
    · rw [c, show (2 : Nat) ^ (64 * 0) = 1 by rfl]; simp only [n4]; simp; omega
    · rw [c, show (2 : Nat) ^ (64 * 1) = 18446744073709551616 by rfl]; simp only [n4]; simp; omega
    · rw [c, show (2 : Nat) ^ (64 * 2) = 340282366920938463463374607431768211456 by rfl]; simp only [n4]; simp; omega
    · rw [c, show (2 : Nat) ^ (64 * 3) = 6277101735386680763835789423207666416102355444464034512896 by rfl]; simp only [n4]; simp; omega
theorem wpt_all {d : Nat → Nat} {K : Nat} (hK : K ≤ 16) (h : ∀ j, j < K → d j < 65536) : wpt d 0 K < 18446744073709551616 ∧ wpt d 1 K < 18446744073709551616 ∧ wpt d 2 K < 18446744073709551616 ∧ wpt d 3 K < 18446744073709551616 ∧ n4 (wpt d 0 K) (wpt d 1 K) (wpt d 2 K) (wpt d 3 K) = vd d K :=
  ⟨wpt_64 _ _ h, wpt_64 _ _ h, wpt_64 _ _ h, wpt_64 _ _ h, wpt_n4 K hK⟩

theorem or_up (x y s : Nat) (hx : x < 2 ^ s) (hy : y < 65536) (hs : s ≤ 48) : bits .or .u64 (x : Int) (IntKind.u64.wrap ((y : Int) * 2 ^ s)) = ((x + y * 2 ^ s : Nat) : Int) := by
  have h1 : 2 ^ s ≤ 2 ^ 48 := Nat.pow_le_pow_right (by omega) hs
  have h2 : y * 2 ^ s ≤ 65535 * 2 ^ 48 := Nat.mul_le_mul (by omega) h1
  have h3 : y * 2 ^ s < 18446744073709551616 := by omega
  have e : IntKind.u64.wrap ((y : Int) * 2 ^ s) = ((y * 2 ^ s : Nat) : Int) := by
    rw [IntKind.wrap_u64]
    have e0 : (y : Int) * 2 ^ s = ((y * 2 ^ s : Nat) : Int) := by simp
    rw [e0]
    omega
  rw [e, bits_or_u64_nat x (y * 2 ^ s) (by omega) h3]
  have := Nat.two_pow_add_eq_or_of_lt hx y
  rw [Nat.or_comm, Nat.mul_comm y, ← this, Nat.add_comm]

def rw4 (d : Nat → Nat) (k : Nat) : Array Value := #[.int .u64 (wpt d 0 k : Nat), .int .u64 (wpt d 1 k : Nat), .int .u64 (wpt d 2 k : Nat), .int .u64 (wpt d 3 k : Nat)]
theorem rw4_at (d : Nat → Nat) (k p : Nat) (h : p < 4) : (rw4 d k)[p]? = some (.int .u64 (wpt d p k : Nat)) := by
  have c : p = 0 ∨ p = 1 ∨ p = 2 ∨ p = 3 := by omega
  rcases c with rfl | rfl | rfl | rfl <;> rfl
theorem rw4_one (d : Nat → Nat) (k : Nat) : (rw4 d k).all (·.oneCell') = true := by
  simp [rw4, Value.oneCell']
theorem rw4_set (d : Nat → Nat) (k p s : Nat) (hk : k < 16) (hp : k / 4 = p) (hs : 16 * (k % 4) = s) : (rw4 d k).setIfInBounds p (.int .u64 ((wpt d p k + d k * 2 ^ s : Nat) : Int)) = rw4 d (k + 1) := by
  have c : p = 0 ∨ p = 1 ∨ p = 2 ∨ p = 3 := by omega
  subst hs
  rcases c with rfl | rfl | rfl | rfl <;> simp [rw4, wpt, hp]
theorem rw4_wv (d : Nat → Nat) (K : Nat) (hK : K ≤ 16) (h : ∀ j, j < K → d j < 65536) : Value.agg (rw4 d K) = wv (vd d K) := by
  obtain ⟨h0, h1, h2, h3, e⟩ := wpt_all hK h
  rw [← e, wv_n4 h0 h1 h2 h3]
  rfl
theorem heap2 (w : World) (A B : Obj) : ((w.alloc A).alloc B).heap[w.heap.size]? = some A ∧ ((w.alloc A).alloc B).heap[w.heap.size + 1]? = some B := ⟨heap_alloc2_old _ _ _, heap_alloc2_new _ _ _⟩

set_option maxRecDepth 100000 in
set_option maxHeartbeats 2000000 in
theorem word_walk (b cp n : Nat) (d : Nat → Nat) (hn : (n : Int) ≤ 1000000) (hd : ∀ j, j < n → d j < 65536) (w : World) (hD : Dg w b n d) :
    Calls Tryd.prog 28 #[.slice (some ⟨b, 0, none⟩) n cp] w fun e w' => e = .returned (.agg (rw4 d (min 16 n))) ∧ Below w.heap.size w w' := by
  have HD := Lib.hid hd; clear hd
  have HDG := Lib.hid hD; clear hD
  go_enter Tryd.func28, Tryd.ntmps28
  go_wp2
  go_loopw [4] (fun i wr => ∃ k : Nat, k ≤ min 16 n ∧ i = .int .i64 k ∧ Hid (wr.heap[w.heap.size]? = some (.cells (rw4 d 0) 24 (0, 0)) ∧ wr.heap[w.heap.size + 1]? = some (.cells (rw4 d k) 24 (0, 0)) ∧ Below w.heap.size w wr)) (fun i _ => 16 - (intOf i).toNat)
  case atStart => exact ⟨0, by omega, rfl, Lib.hid ⟨(heap2 _ _ _).1, (heap2 _ _ _).2, by go_grown⟩⟩
  case round =>
    obtain ⟨k, hk, rfl, H⟩ := hrel
    have hk0 : (0 : Int) ≤ k := by omega
    have hk1 : (k : Int) ≤ 16 := by omega
    by_cases hlt : k < min 16 n
    · have h16 : (k : Int) < 16 := by omega
      have hkn : (k : Int) < (n : Int) := by omega
      obtain ⟨p, hp⟩ : ∃ p : Nat, (k : Int) / 4 = (p : Int) := ⟨k / 4, by omega⟩
      obtain ⟨s, hs⟩ : ∃ s : Nat, 16 * ((k : Int) % 4) = (s : Int) := ⟨16 * (k % 4), by omega⟩
      have hp0 : (0 : Int) ≤ p := by omega
      have hp1 : (p : Int) < 4 := by omega
      have hs0 : (0 : Int) ≤ s := by omega
      have hs1 : (s : Int) < 64 := by omega
      have cd : wr.cell? ⟨b, k, none⟩ = some (.int .u64 (d k : Nat)) := (H.out.2.2.cell (p := ⟨b, k, none⟩) HDG.out.1).trans (HDG.out.2 k (by omega))
      have ca : wr.cell? ⟨w.heap.size + 1, p, none⟩ = some (.int .u64 (wpt d p k : Nat)) := (cell_of_row wr _ p _ _ _ H.out.2.1).trans (rw4_at d k p (by omega))
      have cf : wr.frozen? ⟨w.heap.size + 1, p, none⟩ = false := frozen_of_row wr _ p _ _ H.out.2.1
      have hv := or_up (wpt d p k) (d k) s (wlow (by omega) (by omega) (fun j hj => HD.out j (by omega))) (HD.out k (by omega)) (by omega)
      have HV := Lib.hid hv; clear hv
      go_wp2
      refine region_quiet_tail 17 (fun w' => ∃ n, w' = wr.drewN n) (by kernel_rfl) (by kernel_rfl) ⟨1, rfl⟩ ?_
      simp only [List.take_succ_cons, List.take_zero, List.drop_succ_cons, List.drop_zero]
      repeat (go_big_quiet_step (fail))
      with_reducible refine wpQuiet_nil ?_
      rintro _ ⟨nq, rfl⟩
      go_wp2
      go_roundw
      case rel =>
        refine ⟨k + 1, by omega, by go_num, Lib.hid ⟨(heap_setCell_other (wr.drewN nq) _ _ _ (by simp)).trans H.out.1, ?_, (below_drewN H.out.2.2 nq).setCell (by simp) _⟩⟩
        rw [HV.out, heap_setCell_same (wr.drewN nq) _ _ _ _ _ H.out.2.1, rw4_set d k p s (by omega) (by omega) (by omega)]
      case measure => simp [intOf]; omega
    · obtain rfl : k = min 16 n := by omega
      have hi : (Tryd.prog.info? 24).map (·.size) = some 4 := by kernel_rfl
      have HI := Lib.hid hi; clear hi
      generalize hK : min 16 n = K at *
      by_cases h16 : K = 16
      · have hx : decide ((K : Int) < 16) = false := by rw [decide_eq_false_iff_not]; omega
        have HK := Lib.hid hK; clear hK h16
        go_wp2_with (first | (refine wpList_load_row rfl 24 _ rfl (w.heap.size + 1) rfl 24 _ (0, 0) _ H.out.2.1 Tryd.underlying24 rfl HI.out ?_) | (refine wpList_store_row rfl 24 _ _ rfl w.heap.size (rw4 d K) rfl rfl 24 (rw4 d 0) H.out.1 HI.out rfl (rw4_one _ _) ?_))
        refine bodyPost_ret (v := .agg (rw4 d K)) (results_cell_row (p := 2) rfl _ _ w.heap.size 24 _ (0, 0) _ rfl (setRow_heap _ _ _ _ _ _ H.out.1) Tryd.underlying24 rfl HI.out) rfl ⟨by rw [HK.out], below_setRow H.out.2.2 (Nat.le_refl _) _⟩
      · have hx : decide ((K : Int) < 16) = true := by rw [decide_eq_true_iff]; omega
        have hy : decide (K < n) = false := by rw [decide_eq_false_iff_not]; omega
        have HK := Lib.hid hK; clear hK h16
        go_wp2_with (first | (refine wpList_load_row rfl 24 _ rfl (w.heap.size + 1) rfl 24 _ (0, 0) _ H.out.2.1 Tryd.underlying24 rfl HI.out ?_) | (refine wpList_store_row rfl 24 _ _ rfl w.heap.size (rw4 d K) rfl rfl 24 (rw4 d 0) H.out.1 HI.out rfl (rw4_one _ _) ?_))
        refine bodyPost_ret (v := .agg (rw4 d K)) (results_cell_row (p := 2) rfl _ _ w.heap.size 24 _ (0, 0) _ rfl (setRow_heap _ _ _ _ _ _ H.out.1) Tryd.underlying24 rfl HI.out) rfl ⟨by rw [HK.out], below_setRow H.out.2.2 (Nat.le_refl _) _⟩

theorem vd_low (d : Nat → Nat) (n : Nat) : ∀ m, n ≤ m → vd d m % 65536 ^ n = vd d n % 65536 ^ n := by
  intro m hm
  induction m with
  | zero => obtain rfl : n = 0 := by omega
            rfl
  | succ m ih =>
    by_cases e : n = m + 1
    · rw [e]
    · simp only [vd]
      rw [← ih (by omega)]
      have : 65536 ^ m * d m = 65536 ^ n * (65536 ^ (m - n) * d m) := by rw [← Nat.mul_assoc, ← Nat.pow_add, show n + (m - n) = m by omega]
      rw [this, Nat.add_mul_mod_self_left]

-- WHAT Word COMES TO.
theorem word_any (b cp n : Nat) (d : Nat → Nat) (hn : (n : Int) ≤ 1000000) (hd : ∀ j, j < n → d j < 65536) (w : World) (hD : Dg w b n d) :
    Calls Tryd.prog 28 #[.slice (some ⟨b, 0, none⟩) n cp] w fun e w' => e = .returned (wv (vd d n)) ∧ Below w.heap.size w w' := by
  have h := word_walk b cp n d hn hd w hD
  rw [rw4_wv d (min 16 n) (by omega) (fun j hj => hd j (by omega))] at h
  by_cases h16 : n ≤ 16
  · rw [Nat.min_eq_right h16] at h
    exact h
  · rw [Nat.min_eq_left (by omega)] at h
    have e : wv (vd d 16) = wv (vd d n) := wv_congr (vd_low d 16 n (by omega)).symm
    rw [e] at h
    exact h
end Go.Proofs.YtmhgnlngcjckbaaDoor
namespace Go.Proofs.YtmhgnlngcjckbaaDoor
open Go.RowKit

/-- A block of L digits that may be written. -/
def OutAt (wr : World) (B L : Nat) (o : Nat → Nat) : Prop := B < wr.heap.size ∧ ∀ j, j < L → wr.cell? ⟨B, j, none⟩ = some (.int .u64 (o j : Nat)) ∧ wr.frozen? ⟨B, j, none⟩ = false
theorem OutAt.drewN {wr : World} {B L : Nat} {o : Nat → Nat} (h : OutAt wr B L o) (n : Nat) : OutAt (wr.drewN n) B L o := h
theorem OutAt.set {wr : World} {B L : Nat} {o : Nat → Nat} (h : OutAt wr B L o) (p y : Nat) (hp : p < L) : OutAt (wr.setCell ⟨B, p, none⟩ (.int .u64 (y : Nat))) B L (upd o p y) := by
  refine ⟨by simpa using h.1, fun j hj => ⟨?_, ?_⟩⟩
  · by_cases e : j = p
    · subst e
      rw [World.cell?_setCell_same _ _ _ (h.2 j hj).1]
      simp [upd]
    · rw [World.cell?_setCell_other _ _ _ _ (by intro e2; apply e; injection e2 with _ e3; exact e3.symm), (h.2 j hj).1]
      simp [upd, e]
  · rw [World.frozen?_setCell]; exact (h.2 j hj).2

/-- One digit in the place of another. -/
theorem vd_set (o : Nat → Nat) (p y : Nat) : ∀ L, p < L → vd (upd o p y) L + 65536 ^ p * o p = vd o L + 65536 ^ p * y
  | 0, h => by omega
  | L + 1, h => by
    simp only [vd]
    by_cases e : p = L
    · subst e
      rw [vd_congr (d := upd o p y) (e := o) (fun j hj => by simp [upd, show ¬ j = p by omega])]
      simp only [upd, if_true]
      omega
    · have := vd_set o p y L (by omega)
      rw [show upd o p y L = o L by simp [upd, show ¬ L = p by omega]]
      omega

/-- What the inner loop of Product keeps: the number of all digits, and what is carried. -/
def PRel (n m i j c : Nat) (da db o0 o : Nat → Nat) : Prop :=
  c < 65536 ∧ (∀ t, t < n + m → o t < 65536) ∧ (∀ t, i + m ≤ t → t < n + m → o t = 0) ∧ vd o (n + m) + 65536 ^ (i + j) * c = vd o0 (n + m) + 65536 ^ i * da i * vd db j
theorem prel_next {n m i j c x : Nat} {da db o0 o : Nat → Nat} (h : PRel n m i j c da db o0 o) (hi : i < n) (hj : j < m) (hx : x = o (i + j) + da i * db j + c) (ha : da i < 65536) (hb : db j < 65536) :
    PRel n m i (j + 1) (x / 65536) da db o0 (upd o (i + j) (x % 65536)) := by
  obtain ⟨hc, ho, hz, hv⟩ := h
  have hop := ho (i + j) (by omega)
  have hab : da i * db j ≤ 65535 * 65535 := Nat.mul_le_mul (by omega) (by omega)
  refine ⟨by omega, fun t ht => ?_, fun t h1 h2 => ?_, ?_⟩
  · unfold upd; split
    · omega
    · exact ho t ht
  · unfold upd; rw [if_neg (by omega)]; exact hz t h1 h2
  · have h1 := vd_set o (i + j) (x % 65536) (n + m) (by omega)
    have e : x = x % 65536 + 65536 * (x / 65536) := by omega
    have e1 : 65536 ^ (i + j) * x = 65536 ^ (i + j) * (x % 65536) + 65536 ^ (i + (j + 1)) * (x / 65536) := by
      rw [show i + (j + 1) = (i + j) + 1 by omega, Nat.pow_succ, Nat.mul_assoc, ← Nat.mul_add, ← e]
    have e2 : 65536 ^ (i + j) * x = 65536 ^ (i + j) * o (i + j) + 65536 ^ (i + j) * (da i * db j) + 65536 ^ (i + j) * c := by rw [hx, Nat.mul_add, Nat.mul_add]
    have e3 : 65536 ^ i * da i * vd db (j + 1) = 65536 ^ i * da i * vd db j + 65536 ^ (i + j) * (da i * db j) := by
      simp only [vd]
      rw [Nat.mul_add, Nat.pow_add]
      congr 1
      simp only [Nat.mul_assoc, Nat.mul_left_comm]
    rw [e3]
    omega
theorem prel_end {n m i c : Nat} {da db o0 o : Nat → Nat} (h : PRel n m i m c da db o0 o) (hi : i < n) (hv0 : vd o0 (n + m) = vd da i * vd db m) :
    (∀ t, t < n + m → upd o (i + m) c t < 65536) ∧ (∀ t, i + 1 + m ≤ t → t < n + m → upd o (i + m) c t = 0) ∧ vd (upd o (i + m) c) (n + m) = vd da (i + 1) * vd db m := by
  obtain ⟨hc, ho, hz, hv⟩ := h
  refine ⟨fun t ht => ?_, fun t h1 h2 => ?_, ?_⟩
  · unfold upd; split
    · exact hc
    · exact ho t ht
  · unfold upd; rw [if_neg (by omega)]; exact hz t (by omega) h2
  · have h1 := vd_set o (i + m) c (n + m) (by omega)
    rw [hz (i + m) (Nat.le_refl _) (by omega), Nat.mul_zero, Nat.add_zero] at h1
    rw [h1, hv, hv0]
    simp only [vd]
    rw [Nat.add_mul]

theorem madeCells_at (k j : Nat) (h : j < k) : (madeCells (Value.int .u64 0).cells (k * 1)).toList[j]? = some (.int .u64 ((0 : Nat) : Int)) := by
  simp [madeCells, Value.cells, h, Nat.mod_one]
theorem vd_nought (L : Nat) : vd (fun _ => 0) L = 0 := by
  induction L with
  | zero => rfl
  | succ L ih => simp [vd, ih]

set_option maxRecDepth 100000 in
set_option maxHeartbeats 4000000 in
theorem product_digits (ba ca bb cb n m : Nat) (da db : Nat → Nat) (hn : (n : Int) ≤ 1000000) (hm : (m : Int) ≤ 1000000) (ha : ∀ j, j < n → da j < 65536) (hb : ∀ j, j < m → db j < 65536) (w : World) (hA : Dg w ba n da) (hB : Dg w bb m db) :
    Calls Tryd.prog 27 #[.slice (some ⟨ba, 0, none⟩) n ca, .slice (some ⟨bb, 0, none⟩) m cb] w (MkDg (n + m) (vd da n * vd db m) w) := by
  have Ha := Lib.hid ha; clear ha
  have Hb := Lib.hid hb; clear hb
  have HA := Lib.hid hA; clear hA
  have HB := Lib.hid hB; clear hB
  have hn0 : (0 : Int) ≤ n := by omega
  have hm0 : (0 : Int) ≤ m := by omega
  obtain ⟨i0, hi, hz0, hz1, hz2⟩ := info_parts info22
  obtain ⟨L, hL⟩ : ∃ L : Nat, (n : Int) + (m : Int) = (L : Int) := ⟨n + m, by omega⟩
  have HL : Hid (n + m = L) := Lib.hid (by omega)
  have hLb : (L : Int) ≤ 2000000 := by omega
  go_enter Tryd.func27, Tryd.ntmps27
  go_wp2_with (at_make; refine wpList_make_full _ rfl _ _ 38 rfl w.heap.size 22 i0 (.int .u64 0) 1 Tryd.underlying38 hi hz0 hz1 .i64 .i64 _ _ L rfl rfl rfl rfl (by rw [hz2]; omega) (by unfold maxLen; omega) (Nat.le_refl _) ?_; intro w0 hown0 hgrow0)
  have hout : OutAt w0 w.heap.size L (fun _ => 0) := ⟨(hown0.lt _ rfl).2, fun j hj => ⟨(hown0.cellAt j (by omega)).trans (madeCells_at L j hj), hown0.frozenAt j⟩⟩
  have hbel : Below w.heap.size w w0 := (Below.refl _ _).grown hgrow0 (Nat.le_refl _) (fun k hk => by cases hk)
  have HW := Lib.hid (And.intro hout hbel)
  clear hout hbel hown0 hgrow0 hL
  go_wp2
  go_loopw [6] (fun iv wr => ∃ i : Nat, i ≤ n ∧ iv = .int .i64 i ∧ Hid (∃ o : Nat → Nat, OutAt wr w.heap.size L o ∧ Below w.heap.size w wr ∧ (∀ t, t < n + m → o t < 65536) ∧ (∀ t, i + m ≤ t → t < n + m → o t = 0) ∧ vd o (n + m) = vd da i * vd db m)) (fun iv _ => n - (intOf iv).toNat)
  case atStart => exact ⟨0, Nat.zero_le _, rfl, Lib.hid ⟨fun _ => 0, HW.out.1, HW.out.2, fun _ _ => (by show (0 : Nat) < 65536; omega), fun _ _ _ => rfl, by rw [vd_nought]; simp [vd]⟩⟩
  case round =>
    obtain ⟨i, hin, rfl, H⟩ := hrel
    have hi0 : (0 : Int) ≤ i := by omega
    have hi1 : (i : Int) ≤ 1000000 := by omega
    by_cases hlt : i < n
    · obtain ⟨o0, hO0, hB0, hd0, hz0', hv0⟩ := H.out
      have HV0 := Lib.hid hv0; clear hv0
      have HO0 := Lib.hid (And.intro hO0 (And.intro hB0 (And.intro hd0 hz0'))); clear hO0 hB0 hd0 hz0' H
      go_wp2
      go_loopw [7, 8] (fun cv jv wr2 => ∃ j c : Nat, j ≤ m ∧ jv = .int .i64 j ∧ cv = .int .u64 c ∧ Hid (∃ o : Nat → Nat, OutAt wr2 w.heap.size L o ∧ Below w.heap.size w wr2 ∧ PRel n m i j c da db o0 o)) (fun _ jv _ => m - (intOf jv).toNat)
      case atStart => exact ⟨0, 0, Nat.zero_le _, rfl, rfl, Lib.hid ⟨o0, HO0.out.1, HO0.out.2.1, by omega, HO0.out.2.2.1, HO0.out.2.2.2, by simp [vd]⟩⟩
      case round =>
        obtain ⟨j, c, hjm, rfl, rfl, H⟩ := hrel
        obtain ⟨o, hO, hBw, hP⟩ := H.out
        have hj0 : (0 : Int) ≤ j := by omega
        have hj1 : (j : Int) ≤ 1000000 := by omega
        have hc0 : (0 : Int) ≤ c := by omega
        have hc1 : (c : Int) < 65536 := by have := hP.1; omega
        by_cases hjl : j < m
        · obtain ⟨p, hp⟩ : ∃ p : Nat, (i : Int) + (j : Int) = (p : Int) := ⟨i + j, by omega⟩
          have HPI : Hid (i + j = p) := Lib.hid (by omega)
          have hp0 : (0 : Int) ≤ p := by omega
          have hpL : (p : Int) < (L : Int) := by have := HL.out; omega
          have hil : (i : Int) < (n : Int) := by omega
          have hjl' : (j : Int) < (m : Int) := by omega
          have co : wr.cell? ⟨w.heap.size, p, none⟩ = some (.int .u64 (o p : Nat)) := (hO.2 p (by omega)).1
          have fo : wr.frozen? ⟨w.heap.size, p, none⟩ = false := (hO.2 p (by omega)).2
          have cA : wr.cell? ⟨ba, i, none⟩ = some (.int .u64 (da i : Nat)) := (hBw.cell (p := ⟨ba, i, none⟩) HA.out.1).trans (HA.out.2 i hlt)
          have cB : wr.cell? ⟨bb, j, none⟩ = some (.int .u64 (db j : Nat)) := (hBw.cell (p := ⟨bb, j, none⟩) HB.out.1).trans (HB.out.2 j hjl)
          obtain ⟨q, hq⟩ : ∃ q : Nat, q = da i * db j := ⟨_, rfl⟩
          have hab : da i * db j ≤ 65535 * 65535 := Nat.mul_le_mul (by have := Ha.out i hlt; omega) (by have := Hb.out j hjl; omega)
          have hqb : q ≤ 4294836225 := by rw [hq]; exact hab
          have hqi : IntKind.u64.wrap (((da i : Nat) : Int) * ((db j : Nat) : Int)) = (q : Int) := by
            rw [IntKind.wrap_u64, hq]
            have e0 : ((da i : Nat) : Int) * ((db j : Nat) : Int) = ((da i * db j : Nat) : Int) := by simp
            rw [e0]; omega
          have hop : o p < 65536 := hP.2.1 p (by have := HL.out; omega)
          obtain ⟨x, hx⟩ : ∃ x : Nat, x = o p + q + c := ⟨_, rfl⟩
          have hxi : ((o p : Nat) : Int) + (q : Int) + (c : Int) = (x : Int) := by omega
          have hxb : x < 8589934592 := by omega
          have hand : bits .and .u64 (x : Int) 65535 = ((x % 65536 : Nat) : Int) := and_low16 x (by omega)
          have HN : Hid (PRel n m i (j + 1) (x / 65536) da db o0 (upd o p (x % 65536))) := Lib.hid (by
            have := prel_next (x := x) hP hlt hjl (by rw [HPI.out, hx, hq]) (Ha.out i hlt) (Hb.out j hjl)
            rwa [HPI.out] at this)
          have HAND := Lib.hid hand; clear hand
          have HOB := Lib.hid (And.intro hO hBw); clear hO hBw
          have HQ := Lib.hid hq; clear hq
          have HXX := Lib.hid hx; clear hx
          clear hP H hab
          have hq0 : (0 : Int) ≤ q := by omega
          have hq1 : (q : Int) ≤ 4294836225 := by omega
          have hx0 : (0 : Int) ≤ x := by omega
          have hx1 : (x : Int) < 8589934592 := by omega
          have ho0 : (0 : Int) ≤ (o p : Nat) := by omega
          have ho1 : ((o p : Nat) : Int) < 65536 := by omega
          clear hqb hxb hop
          go_wp2
          go_quiet (fail)
          go_wp2
          go_roundw
          case rel =>
            refine ⟨j + 1, x / 65536, by omega, by go_num, by go_num, Lib.hid ⟨upd o p (x % 65536), ?_, ?_, HN.out⟩⟩
            · rw [HAND.out]; exact (HOB.out.1.drewN nq).set p (x % 65536) (by omega)
            · exact (below_drewN HOB.out.2 nq).setCell (Nat.le_refl _) _
          case measure => simp [intOf]; omega
        · obtain rfl : j = m := by omega
          obtain ⟨p, hp⟩ : ∃ p : Nat, (i : Int) + (j : Int) = (p : Int) := ⟨i + j, by omega⟩
          have HPI : Hid (i + j = p) := Lib.hid (by omega)
          have hp0 : (0 : Int) ≤ p := by omega
          have hpL : (p : Int) < (L : Int) := by have := HL.out; omega
          have co : wr.cell? ⟨w.heap.size, p, none⟩ = some (.int .u64 (o p : Nat)) := (hO.2 p (by omega)).1
          have fo : wr.frozen? ⟨w.heap.size, p, none⟩ = false := (hO.2 p (by omega)).2
          have HN := Lib.hid (prel_end hP hlt HV0.out)
          have HOB := Lib.hid (And.intro hO hBw); clear hO hBw hP H
          go_wp2
          go_roundw
          case rel =>
            refine ⟨i + 1, by omega, by go_num, Lib.hid ⟨upd o p c, HOB.out.1.set p c (by omega), HOB.out.2.setCell (Nat.le_refl _) _, ?_, ?_, ?_⟩⟩
            · rw [← HPI.out]; exact HN.out.1
            · rw [← HPI.out]; exact HN.out.2.1
            · rw [← HPI.out]; exact HN.out.2.2
          case measure => simp [intOf]; omega
    · obtain rfl : i = n := by omega
      obtain ⟨o, hO, hBw, hd, -, hv⟩ := H.out
      go_wp2
      go_ret
      rw [HL.out] at hv hd ⊢
      exact ⟨w.heap.size, L, o, rfl, Nat.le_refl _, ⟨hO.1, fun j hj => (hO.2 j hj).1⟩, hd, hv, hBw⟩
end Go.Proofs.YtmhgnlngcjckbaaDoor
namespace Go.Proofs.YtmhgnlngcjckbaaDoor
open Go.RowKit

theorem down_at (i b c : Nat) (v : Value) (h0 : (0 : Int) ≤ i) (h : (i : Int) < 4) (w : World) (hc : w.cell? ⟨b, i, none⟩ = some v) : Calls Tryd.prog 70 #[.int .i64 i, .pointer (some ⟨b, 0, none⟩), .pointer (some ⟨c, 0, none⟩)] w fun e w' => e = .returned v ∧ w' = w := by
  go_enter Tryd.func70, Tryd.ntmps70
  go_wp2
  go_ret
  exact ⟨rfl, rfl⟩
theorem down_past (i : Int) (b c : Nat) (v : Value) (h : 4 ≤ i) (w : World) (hc : w.cell? ⟨c, 0, none⟩ = some v) : Calls Tryd.prog 70 #[.int .i64 i, .pointer (some ⟨b, 0, none⟩), .pointer (some ⟨c, 0, none⟩)] w fun e w' => e = .returned v ∧ w' = w := by
  have h' : ¬ i < 4 := by omega
  go_enter Tryd.func70, Tryd.ntmps70
  go_wp2
  go_ret
  exact ⟨rfl, rfl⟩

set_option maxRecDepth 100000 in
set_option maxHeartbeats 2000000 in
theorem down_walk (k0 k1 k2 k3 a0 a1 a2 a3 f p0 p1 p2 p3 p4 s t : Nat) (wh j0 j1 j2 j3 j4 : Int) (h0 : (0 : Int) ≤ s) (h64 : (s : Int) < 64)
    (ht : IntKind.i64.wrap (64 - (s : Int)) = (t : Int)) (ht64 : (t : Int) ≤ 64)
    (e0 : IntKind.i64.wrap wh = j0) (e1 : IntKind.i64.wrap (1 + wh) = j1) (e2 : IntKind.i64.wrap (2 + wh) = j2) (e3 : IntKind.i64.wrap (3 + wh) = j3)
    (g0 : IntKind.i64.wrap (j0 + 1) = j1) (g1 : IntKind.i64.wrap (j1 + 1) = j2) (g2 : IntKind.i64.wrap (j2 + 1) = j3) (g3 : IntKind.i64.wrap (j3 + 1) = j4) (w : World)
    (hC : ∀ (b c : Nat) (W : World), W.cell? ⟨b, 0, none⟩ = some (.int .u64 a0) → W.cell? ⟨b, 1, none⟩ = some (.int .u64 a1) → W.cell? ⟨b, 2, none⟩ = some (.int .u64 a2) → W.cell? ⟨b, 3, none⟩ = some (.int .u64 a3) → W.cell? ⟨c, 0, none⟩ = some (.int .u64 f) →
      (Calls Tryd.prog 70 #[.int .i64 j0, .pointer (some ⟨b, 0, none⟩), .pointer (some ⟨c, 0, none⟩)] W fun e w' => e = .returned (.int .u64 p0) ∧ w' = W) ∧
      (Calls Tryd.prog 70 #[.int .i64 j1, .pointer (some ⟨b, 0, none⟩), .pointer (some ⟨c, 0, none⟩)] W fun e w' => e = .returned (.int .u64 p1) ∧ w' = W) ∧
      (Calls Tryd.prog 70 #[.int .i64 j2, .pointer (some ⟨b, 0, none⟩), .pointer (some ⟨c, 0, none⟩)] W fun e w' => e = .returned (.int .u64 p2) ∧ w' = W) ∧
      (Calls Tryd.prog 70 #[.int .i64 j3, .pointer (some ⟨b, 0, none⟩), .pointer (some ⟨c, 0, none⟩)] W fun e w' => e = .returned (.int .u64 p3) ∧ w' = W) ∧
      (Calls Tryd.prog 70 #[.int .i64 j4, .pointer (some ⟨b, 0, none⟩), .pointer (some ⟨c, 0, none⟩)] W fun e w' => e = .returned (.int .u64 p4) ∧ w' = W))
    (hS : ∀ w, Calls Tryd.prog 49 #[.agg #[.int .u64 k0, .int .u64 k1, .int .u64 k2, .int .u64 k3]] w fun e w' => e = .returned (.tuple #[.int .i64 wh, .int .i64 s]) ∧ Below w.heap.size w w') :
    Calls Tryd.prog 54 #[.agg #[.int .u64 k0, .int .u64 k1, .int .u64 k2, .int .u64 k3], .agg #[.int .u64 a0, .int .u64 a1, .int .u64 a2, .int .u64 a3], .int .u64 f] w fun e w' =>
      e = .returned (.agg #[.int .u64 (bits .or .u64 ((p0 : Int) / 2 ^ s) (IntKind.u64.wrap ((p1 : Int) * 2 ^ t))), .int .u64 (bits .or .u64 ((p1 : Int) / 2 ^ s) (IntKind.u64.wrap ((p2 : Int) * 2 ^ t))), .int .u64 (bits .or .u64 ((p2 : Int) / 2 ^ s) (IntKind.u64.wrap ((p3 : Int) * 2 ^ t))), .int .u64 (bits .or .u64 ((p3 : Int) / 2 ^ s) (IntKind.u64.wrap ((p4 : Int) * 2 ^ t)))]) ∧ Below w.heap.size w w' := by
  have HC := Lib.hid hC; clear hC
  have E0 := Lib.hid e0; clear e0
  have G0 := Lib.hid g0; clear g0
  have G1 := Lib.hid g1; clear g1
  have G2 := Lib.hid g2; clear g2
  have G3 := Lib.hid g3; clear g3
  go_enter Tryd.func54, Tryd.ntmps54
  go_wp2_with fail
  refine (hS _).mono ?_
  rintro e w1 ⟨rfl, hb⟩
  obtain ⟨x0, -, -⟩ := after1 (b := w.heap.size + 1) (i := 0) (v := .int .u64 a0) hb (by simp) (by go_cell) (by go_cell)
  obtain ⟨x1, -, -⟩ := after1 (b := w.heap.size + 1) (i := 1) (v := .int .u64 a1) hb (by simp) (by go_cell) (by go_cell)
  obtain ⟨x2, -, -⟩ := after1 (b := w.heap.size + 1) (i := 2) (v := .int .u64 a2) hb (by simp) (by go_cell) (by go_cell)
  obtain ⟨x3, -, -⟩ := after1 (b := w.heap.size + 1) (i := 3) (v := .int .u64 a3) hb (by simp) (by go_cell) (by go_cell)
  obtain ⟨x4, -, -⟩ := after1 (b := w.heap.size + 1 + 1) (i := 0) (v := .int .u64 f) hb (by simp) (by go_cell) (by go_cell)
  obtain ⟨⟨q0, q1, q2, q3⟩, ⟨f0, f1, f2, f3⟩, hz, hb'⟩ := after4 (w := w) (B := w.heap.size) (w.heap.size + 1 + 1 + 1) hb (by go_grown) (by simp; omega) (by simp) (by go_cell) (by go_cell) (by go_cell) (by go_cell) (by go_cell) (by go_cell) (by go_cell) (by go_cell)
  clear hb
  have hz1 : w.heap.size + 1 < w1.heap.size := by omega
  have hz2 : w.heap.size + 1 + 1 < w1.heap.size := by omega
  go_wp2
  refine wp_loop_rounds 5 ?_
  rw [rounds_succ]; go_wp2
  refine region_still 19 (by kernel_rfl) (by kernel_rfl) ?_
  simp only [List.take_succ_cons, List.take_zero, List.drop_succ_cons, List.drop_zero]
  have e0 := E0.out
  repeat still_step
  still_call (HC.out (w.heap.size + 1) (w.heap.size + 1 + 1) _ (by go_cell) (by go_cell) (by go_cell) (by go_cell) (by go_cell)).1
  have g := G0.out
  repeat still_step
  clear g
  clear e0
  still_call (HC.out (w.heap.size + 1) (w.heap.size + 1 + 1) _ (by go_cell) (by go_cell) (by go_cell) (by go_cell) (by go_cell)).2.1
  repeat still_step
  refine wpStill_nil ?_
  go_wp2
  rw [rounds_succ]; go_wp2
  refine region_still 19 (by kernel_rfl) (by kernel_rfl) ?_
  simp only [List.take_succ_cons, List.take_zero, List.drop_succ_cons, List.drop_zero]
  repeat still_step
  still_call (HC.out (w.heap.size + 1) (w.heap.size + 1 + 1) _ (by go_cell) (by go_cell) (by go_cell) (by go_cell) (by go_cell)).2.1
  have g := G1.out
  repeat still_step
  clear g
  still_call (HC.out (w.heap.size + 1) (w.heap.size + 1 + 1) _ (by go_cell) (by go_cell) (by go_cell) (by go_cell) (by go_cell)).2.2.1
  repeat still_step
  refine wpStill_nil ?_
  go_wp2
  rw [rounds_succ]; go_wp2
  refine region_still 19 (by kernel_rfl) (by kernel_rfl) ?_
  simp only [List.take_succ_cons, List.take_zero, List.drop_succ_cons, List.drop_zero]
  repeat still_step
  still_call (HC.out (w.heap.size + 1) (w.heap.size + 1 + 1) _ (by go_cell) (by go_cell) (by go_cell) (by go_cell) (by go_cell)).2.2.1
  have g := G2.out
  repeat still_step
  clear g
  still_call (HC.out (w.heap.size + 1) (w.heap.size + 1 + 1) _ (by go_cell) (by go_cell) (by go_cell) (by go_cell) (by go_cell)).2.2.2.1
  repeat still_step
  refine wpStill_nil ?_
  go_wp2
  rw [rounds_succ]; go_wp2
  refine region_still 19 (by kernel_rfl) (by kernel_rfl) ?_
  simp only [List.take_succ_cons, List.take_zero, List.drop_succ_cons, List.drop_zero]
  repeat still_step
  still_call (HC.out (w.heap.size + 1) (w.heap.size + 1 + 1) _ (by go_cell) (by go_cell) (by go_cell) (by go_cell) (by go_cell)).2.2.2.1
  have g := G3.out
  repeat still_step
  clear g
  still_call (HC.out (w.heap.size + 1) (w.heap.size + 1 + 1) _ (by go_cell) (by go_cell) (by go_cell) (by go_cell) (by go_cell)).2.2.2.2
  repeat still_step
  refine wpStill_nil ?_
  go_wp2
  rw [rounds_succ]; go_wp2
  refine bodyPost_ret (by simp [results, Tryd.results54, go_sem, hz, q0, q1, q2, q3]; try rfl) rfl ⟨rfl, ?_⟩
  go_grown
end Go.Proofs.YtmhgnlngcjckbaaDoor

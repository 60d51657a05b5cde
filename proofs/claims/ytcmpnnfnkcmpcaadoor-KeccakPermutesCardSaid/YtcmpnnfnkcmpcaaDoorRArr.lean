/- Arrays of integers as rows of the heap. -/
import Derived.Test.YtcmpnnfnkcmpcaaDoorRMix
namespace Go.Proofs.YtcmpnnfnkcmpcaaDoor
open Go.RowKit

/-- An array of n integers. -/
def ar (k : IntKind) (n : Nat) (f : Nat → Int) : Array Value := ((List.range n).map fun j => Value.int k (f j)).toArray
theorem ar_size (k : IntKind) (n : Nat) (f : Nat → Int) : (ar k n f).size = n := by simp [ar]
theorem ar_at (k : IntKind) (n : Nat) (f : Nat → Int) (j : Nat) (h : j < n) : (ar k n f)[j]? = some (.int k (f j)) := by simp [ar, h]
def updI (f : Nat → Int) (p : Nat) (y : Int) (j : Nat) : Int := if j = p then y else f j
theorem ar_set (k : IntKind) (n : Nat) (f : Nat → Int) (p : Nat) (y : Int) (h : p < n) : (ar k n f).setIfInBounds p (.int k y) = ar k n (updI f p y) := by
  apply Array.ext
  · simp [ar]
  · intro i h1 h2
    have hi : i < n := by simpa [ar] using h2
    by_cases e : i = p
    · subst e; simp [ar, updI]
    · simp [ar, updI, e, Ne.symm e]
theorem ar_congr {k : IntKind} {n : Nat} {f g : Nat → Int} (h : ∀ j, j < n → f j = g j) : ar k n f = ar k n g := by
  unfold ar
  congr 1
  apply List.map_congr_left
  intro j hj
  rw [h j (by simpa using hj)]
theorem ar_one (k : IntKind) (n : Nat) (f : Nat → Int) : (ar k n f).all (·.oneCell') = true := by simp [ar, Value.oneCell']
theorem ar_cells (k : IntKind) (n : Nat) (f : Nat → Int) : (Value.agg (ar k n f)).cells = ar k n f := by
  simp [Value.cells]
theorem index_ar {P : Program} {t e : TypeId} {k : IntKind} {n : Nat} {f : Nat → Int} {i : Nat} (w : World) (ht : P.underlying t = some (.array n e)) (hs : (sizeOf e).run P w = .ok 1 w) (ha : (isAgg e).run P w = .ok false w) (h : i < n) : (Instr.index t (.agg (ar k n f)) (.int .i64 i)).run P w = .ok (.int k (f i)) w := by
  have h0 : (0 : Int) ≤ i := by omega
  have h1 : ¬ n ≤ i := by omega
  have hc := ar_at k n f i h
  simp [Instr.index, asIntOf, run_underlying ht, part, hs, ha, h0, h1, hc, Result.andThen]
theorem heap3 (w : World) (A B C : Obj) : (((w.alloc A).alloc B).alloc C).heap[w.heap.size]? = some A ∧ (((w.alloc A).alloc B).alloc C).heap[w.heap.size + 1]? = some B ∧ (((w.alloc A).alloc B).alloc C).heap[w.heap.size + 1 + 1]? = some C := by
  show (((w.heap.push A).push B).push C)[w.heap.size]? = _ ∧ (((w.heap.push A).push B).push C)[w.heap.size + 1]? = _ ∧ (((w.heap.push A).push B).push C)[w.heap.size + 1 + 1]? = _
  refine ⟨?_, ?_, ?_⟩
  · simp [Array.getElem?_push]
    omega
  · have h : w.heap.size + 1 ≠ (((w.heap.push A).push B)).size := by simp
    rw [Array.getElem?_push, if_neg h, Array.getElem?_push, if_pos (by simp)]
  · rw [Array.getElem?_push, if_pos (by simp)]
theorem or_u32 (a b : Nat) (ha : a < 4294967296) (hb : b < 4294967296) : bits .or .u32 (a : Int) (b : Int) = ((a ||| b : Nat) : Int) := by
  have hx : a ||| b < 2 ^ 32 := Nat.or_lt_two_pow (by omega) (by omega)
  have h1 : (BitVec.ofInt 32 (a : Int)).toNat = a := by
    rw [BitVec.ofInt_natCast, BitVec.toNat_ofNat]; exact Nat.mod_eq_of_lt (by omega)
  have h2 : (BitVec.ofInt 32 (b : Int)).toNat = b := by
    rw [BitVec.ofInt_natCast, BitVec.toNat_ofNat]; exact Nat.mod_eq_of_lt (by omega)
  show IntKind.u32.wrap ((BitVec.ofInt 32 (a : Int) ||| BitVec.ofInt 32 (b : Int)).toNat : Int) = _
  rw [BitVec.toNat_or, h1, h2, IntKind.wrap_u32]
  omega
theorem or_up {D x s : Nat} (hx : x < 256) (hs : s ≤ 24) (hD : D < 2 ^ s) : bits .or .u32 (D : Int) ((x : Int) * 2 ^ s % 4294967296) = ((D + 2 ^ s * x : Nat) : Int) ∧ D + 2 ^ s * x < 2 ^ (s + 8) := by
  have hp : 2 ^ (s + 8) ≤ 2 ^ 32 := Nat.pow_le_pow_right (by omega) (by omega)
  have h1 : 2 ^ s * (x + 1) ≤ 2 ^ s * 256 := Nat.mul_le_mul_left _ hx
  have h2 : 2 ^ (s + 8) = 2 ^ s * 256 := by rw [Nat.pow_add]
  have h3 : D + 2 ^ s * x < 2 ^ (s + 8) := by rw [h2]; rw [Nat.mul_add, Nat.mul_one] at h1; omega
  refine ⟨?_, h3⟩
  have e1 : ((x : Int) * 2 ^ s) = ((2 ^ s * x : Nat) : Int) := by simp [Int.mul_comm]
  have e2 : ((2 ^ s * x : Nat) : Int) % 4294967296 = ((2 ^ s * x : Nat) : Int) := by
    have : 2 ^ s * x < 4294967296 := by omega
    omega
  rw [e1, e2, or_u32 D _ (by omega) (by omega), Nat.or_comm, ← Nat.two_pow_add_eq_or_of_lt hD]
  congr 1
  omega
end Go.Proofs.YtcmpnnfnkcmpcaaDoor

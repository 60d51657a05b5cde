/- Bytes as a text: what converting a list of bytes comes to; two texts compared, and put one behind the other. -/
import Derived.Test.YtaopmcpihdcaiaaKHelp
import Derived.Laws.BytesArg
namespace Go.Proofs.Ytaopmcpihdcaiaa
open Go.RowKit

/-- n bytes as a text. -/
def strB (n : Nat) (f : Nat → Nat) : ByteArray := strOfNums ((List.range n).map fun j => ((f j : Nat) : Int))
theorem strB_congr {n : Nat} {f g : Nat → Nat} (h : ∀ j, j < n → f j = g j) : strB n f = strB n g := by
  unfold strB
  congr 1
  apply List.map_congr_left
  intro j hj
  rw [h j (by simpa using hj)]
theorem strB_add (n m : Nat) (f g : Nat → Nat) : strB n f ++ strB m g = strB (n + m) (fun j => if j < n then f j else g (j - n)) := by
  have e : (List.range (n + m)).map (fun j => (((if j < n then f j else g (j - n)) : Nat) : Int)) = (List.range n).map (fun j => ((f j : Nat) : Int)) ++ (List.range m).map (fun j => ((g j : Nat) : Int)) := by
    rw [List.range_add, List.map_append, List.map_map]
    congr 1
    · apply List.map_congr_left
      intro j hj
      rw [if_pos (by simpa using hj)]
    · apply List.map_congr_left
      intro j _
      show (((if n + j < n then f (n + j) else g (n + j - n)) : Nat) : Int) = _
      rw [if_neg (by omega), show n + j - n = j by omega]
  unfold strB
  rw [e]
  unfold strOfNums
  apply ByteArray.ext
  simp
theorem str_run {w : World} {v : Value} {n : Nat} {f : Nat → Nat} (h : ArgB w v n f) : (convert 22 9 v).run Try.prog w = .ok (.string (strB n f)) w := by
  obtain ⟨a, cap, rfl, hc, hn0, hr⟩ := h
  cases a with
  | none =>
    obtain rfl := hn0 rfl
    obtain rfl : n = 0 := by omega
    exact run_convert_bytes_nil (P := Try.prog) w 22 5 Try.underlying22 Try.underlying5 0 0 9 Try.underlying9
  | some q =>
    rcases hr with rfl | ⟨b, o, e, h1, h2⟩
    · obtain ⟨qb, qo, qs⟩ := q
      rw [run_convert_bytes_string w 22 9 5 _ 0 cap Try.underlying22 Try.underlying5 Try.underlying9]
      simp [Conv.bytesToString, loadCells, loadCellsFrom, strB, strOfNums]
      rfl
    · injection e with e
      subst e
      refine run_convert_bytes_arg (P := Try.prog) w 22 5 Try.underlying22 Try.underlying5 b o n cap _ (by simp) (fun i hi => ?_) 9 Try.underlying9
      rw [h2 i hi]
      simp [hi]
theorem str_eq (x : ByteArray) (w : World) : (binOp BinOp.eql 9 (.string x) (.string x)).run Try.prog w = .ok (.bool true) w := by
  go_simp
end Go.Proofs.Ytaopmcpihdcaiaa

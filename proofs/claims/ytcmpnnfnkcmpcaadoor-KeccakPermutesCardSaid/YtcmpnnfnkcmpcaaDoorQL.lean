/- Regions in the text's order, whose operations read, reckon, and call functions that make memory: XQ's laws serve them too. No program is named here. -/
import Derived.Test.YtcmpnnfnkcmpcaaDoorQ
namespace Go.Proofs.YtcmpnnfnkcmpcaaDoor
open Go.RowKit

section
variable {P : Program} {ops : Array Oper} {C : World → Prop} {Q : Exit → Act → World → Prop}
theorem wpList_quiet : ∀ (l : List Oper) (a : Act) (w : World), C w → wpQuiet P ops C (fun a' => ∀ w', C w' → Q .normal a' w') l a → wpList P ops Q l a w
  | [], _, w, hC, h => h w hC
  | o :: l, a, w, hC, h => by
    unfold wpQuiet at h
    unfold wpList
    split
    · rename_i hw
      rw [if_pos hw] at h
      exact .inl (Oper.wp_of_quiet hC (fun a' w' hC' hK => wpList_quiet l a' w' hC' hK) h)
    · rename_i hw
      rw [if_neg hw] at h
      exact wpList_quiet l _ w hC h
theorem q_region {id : Nat} {l : List Oper} {a : Act} {w : World} (C : World → Prop) (hC : C w) (h : wpQuiet P l.toArray C (fun a' => ∀ w', C w' → Q .normal a' w') l a) : (Code.region id l.toArray false).wp P Q a w :=
  wp_region_list (by simpa using wpList_quiet l a w hC (by simpa using h))
end
end Go.Proofs.YtcmpnnfnkcmpcaaDoor

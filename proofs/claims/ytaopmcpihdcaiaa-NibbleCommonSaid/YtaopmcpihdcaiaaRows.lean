/-
  No cell of these rows narrows 'for every input' (looked for: loops, veiled, ifaces, maps, wideKeys, modest, calm, conditions, laid).
  DERIVED. THE GIVEN ROWS OF THIS SEAT. 3 by the template 'for every input the law returns true; each argument reads behind the call as it read before'; 0 by the template 'total and deterministic' (their statements: YtaopmcpihdcaiaaTotals.lean).
  GIVEN WITH THE SEED: the statements are not yours to turn. If you find one false, say at which input.
  Laid BY PROGRAM, IN A SANDBOX (cutbox-rows.mjs): the forced cells as the released guide's own fill.sh prints them over the translation 64c4bd5de7363291… (all of the seat's roots in one cut). By AI agents, Wed Nov 11 2026. No macro, syntax, notation, axiom, sorry.
-/
import Derived.Test.YtaopmcpihdcaiaaChecked
import GoSem.Claim
import GoSem.ClaimJoined
import GoSem.ClaimMapViews
import Derived.JoinedTies
import Derived.KernelRfl
namespace Go.Proofs.Ytaopmcpihdcaiaa
/- THE CELL 'sum', in the pinned program and in every row, IS THE sha256 OF THE DUMP (.gsa) THAT YtaopmcpihdcaiaaProg.lean LOADS. Nothing in Lean hashes anything: it is a label: what it is worth is what the hold of that sum in a sandbox is worth. -/
noncomputable def Try.pinned : Pinned := { name := "ytaopmcpihdcaiaa", sum := "64c4bd5de7363291813421bbd41ddc8adc59dcf8dfc036807909e46ee3eaf7cb", checked := Try.checked }
namespace Rows
def none {H : Type} : Left H := { results := [], args := [] }

/-- 'bailiwicklaw13.NibbleHalves': WHATEVER THE INPUT: true; the input reads as it did. -/
def nibbleHalvesSpec : ChangeSpec := { name := "nibbleHalves", fn := fun _ => fun
  | [d1, d2] => { results := [.lit (.bool true)], args := [d1, d2] }
  | _ => none }
def nibbleHalvesRow : OpenClaim := { program := "ytaopmcpihdcaiaa", sum := "64c4bd5de7363291813421bbd41ddc8adc59dcf8dfc036807909e46ee3eaf7cb", func := "bailiwick/bailiwicklaw13.NibbleHalves", spec := "nibbleHalves", unfollowed := true, recurses := true, apart := false }
def NibbleHalvesSaid : Prop := nibbleHalvesRow.holds Try.pinned (OpenSpec.ofChange nibbleHalvesSpec)

/-- ITS FALSE NEIGHBOUR: 'it returns false'. Refute it at one input. -/
def nibbleHalvesWrong : ChangeSpec := { name := "nibbleHalves", fn := fun _ => fun
  | [d1, d2] => { results := [.lit (.bool false)], args := [d1, d2] }
  | _ => none }
def NibbleHalvesWrongFalsely : Prop := nibbleHalvesRow.holds Try.pinned (OpenSpec.ofChange nibbleHalvesWrong)

/-- 'bailiwicklaw13.NibblePaths': WHATEVER THE INPUT: true; the input reads as it did. -/
def nibblePathsSpec : ChangeSpec := { name := "nibblePaths", fn := fun _ => fun
  | [d1, d2, d3] => { results := [.lit (.bool true)], args := [d1, d2, d3] }
  | _ => none }
def nibblePathsRow : OpenClaim := { program := "ytaopmcpihdcaiaa", sum := "64c4bd5de7363291813421bbd41ddc8adc59dcf8dfc036807909e46ee3eaf7cb", func := "bailiwick/bailiwicklaw13.NibblePaths", spec := "nibblePaths", unfollowed := true, recurses := true, apart := false }
def NibblePathsSaid : Prop := nibblePathsRow.holds Try.pinned (OpenSpec.ofChange nibblePathsSpec)

/-- ITS FALSE NEIGHBOUR: 'it returns false'. Refute it at one input. -/
def nibblePathsWrong : ChangeSpec := { name := "nibblePaths", fn := fun _ => fun
  | [d1, d2, d3] => { results := [.lit (.bool false)], args := [d1, d2, d3] }
  | _ => none }
def NibblePathsWrongFalsely : Prop := nibblePathsRow.holds Try.pinned (OpenSpec.ofChange nibblePathsWrong)

/-- 'bailiwicklaw13.NibbleCommon': WHATEVER THE INPUT: true; the input reads as it did. -/
def nibbleCommonSpec : ChangeSpec := { name := "nibbleCommon", fn := fun _ => fun
  | [d1, d2] => { results := [.lit (.bool true)], args := [d1, d2] }
  | _ => none }
def nibbleCommonRow : OpenClaim := { program := "ytaopmcpihdcaiaa", sum := "64c4bd5de7363291813421bbd41ddc8adc59dcf8dfc036807909e46ee3eaf7cb", func := "bailiwick/bailiwicklaw13.NibbleCommon", spec := "nibbleCommon", unfollowed := true, recurses := true, apart := false }
def NibbleCommonSaid : Prop := nibbleCommonRow.holds Try.pinned (OpenSpec.ofChange nibbleCommonSpec)

/-- ITS FALSE NEIGHBOUR: 'it returns false'. Refute it at one input. -/
def nibbleCommonWrong : ChangeSpec := { name := "nibbleCommon", fn := fun _ => fun
  | [d1, d2] => { results := [.lit (.bool false)], args := [d1, d2] }
  | _ => none }
def NibbleCommonWrongFalsely : Prop := nibbleCommonRow.holds Try.pinned (OpenSpec.ofChange nibbleCommonWrong)

/- THE SECOND FORM. 'bulk': how many values and letters a reading holds, each counted each time it is reached (what is shared counts as often as it is met; a slice's spare places count too). A statement '..UptoSaid' is the law's where the arguments, and the package variables that the reading takes, are together of bulk at most 1048576: NARROWER than '..Said'. Prove '..Said' where nothing that the law and all that it calls make is longer than what came in: it says more and counts as full. Else prove '..UptoSaid'. A law counts once. -/
mutual
def uptoBulk {H : Type} : DataW H → Nat
  | .lit (.string bytes) => bytes.length + 1
  | .lit _ => 1
  | .nil => 1
  | .ptr d => uptoBulk d + 1
  | .slice elems spare => uptoBulkAll elems + uptoBulkAll spare + 1
  | .agg parts => uptoBulkAll parts + 1
  | .iface _ d => uptoBulk d + 1
  | .map entries => uptoBulkEntries entries + 1
  | .held _ => 1
def uptoBulkAll {H : Type} : List (DataW H) → Nat
  | [] => 0
  | d :: r => uptoBulk d + uptoBulkAll r
def uptoBulkEntries {H : Type} : List (Lit × DataW H) → Nat
  | [] => 0
  | x :: r => uptoBulkEntry x + uptoBulkEntries r
def uptoBulkEntry {H : Type} : Lit × DataW H → Nat
  | (.string bytes, d) => bytes.length + uptoBulk d + 1
  | (_, d) => uptoBulk d + 1
 end
def uptoSmall : (H : Type) → List (DataW H) → Bool := fun _ ds => decide (uptoBulkAll ds ≤ 1048576)
def OpenSpec.upto (s : _root_.Go.ChangeSpec) : _root_.Go.OpenSpec := { _root_.Go.OpenSpec.ofChange s with cond := some uptoSmall }

/-- 'bailiwicklaw13.NibbleHalves', WHERE WHAT IT READS IS OF BULK AT MOST 1048576: true; the input reads as it did. -/
def nibbleHalvesUptoRow : OpenClaim := { program := "ytaopmcpihdcaiaa", sum := "64c4bd5de7363291813421bbd41ddc8adc59dcf8dfc036807909e46ee3eaf7cb", func := "bailiwick/bailiwicklaw13.NibbleHalves", spec := "nibbleHalves", unfollowed := true, recurses := true, apart := false, narrowed := true }
def NibbleHalvesUptoSaid : Prop := nibbleHalvesUptoRow.holds Try.pinned (OpenSpec.upto nibbleHalvesSpec)

/-- 'bailiwicklaw13.NibblePaths', WHERE WHAT IT READS IS OF BULK AT MOST 1048576: true; the input reads as it did. -/
def nibblePathsUptoRow : OpenClaim := { program := "ytaopmcpihdcaiaa", sum := "64c4bd5de7363291813421bbd41ddc8adc59dcf8dfc036807909e46ee3eaf7cb", func := "bailiwick/bailiwicklaw13.NibblePaths", spec := "nibblePaths", unfollowed := true, recurses := true, apart := false, narrowed := true }
def NibblePathsUptoSaid : Prop := nibblePathsUptoRow.holds Try.pinned (OpenSpec.upto nibblePathsSpec)

/-- 'bailiwicklaw13.NibbleCommon', WHERE WHAT IT READS IS OF BULK AT MOST 1048576: true; the input reads as it did. -/
def nibbleCommonUptoRow : OpenClaim := { program := "ytaopmcpihdcaiaa", sum := "64c4bd5de7363291813421bbd41ddc8adc59dcf8dfc036807909e46ee3eaf7cb", func := "bailiwick/bailiwicklaw13.NibbleCommon", spec := "nibbleCommon", unfollowed := true, recurses := true, apart := false, narrowed := true }
def NibbleCommonUptoSaid : Prop := nibbleCommonUptoRow.holds Try.pinned (OpenSpec.upto nibbleCommonSpec)

end Rows
end Go.Proofs.Ytaopmcpihdcaiaa

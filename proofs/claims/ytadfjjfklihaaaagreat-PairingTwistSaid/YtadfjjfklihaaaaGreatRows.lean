/-
  No cell of these rows narrows 'for every input' (looked for: loops, veiled, ifaces, maps, wideKeys, modest, calm, conditions, laid).
  DERIVED. THE GIVEN ROWS OF THIS SEAT. 3 by the template 'for every input the law returns true; each argument reads behind the call as it read before'; 0 by the template 'total and deterministic' (their statements: YtadfjjfklihaaaaGreatTotals.lean).
  GIVEN WITH THE SEED: the statements are not yours to turn. If you find one false, say at which input.
  Laid BY PROGRAM, IN A SANDBOX (cutbox-rows.mjs): the forced cells as the released guide's own fill.sh prints them over the translation c00dd955f449fd2b… (all of the seat's roots in one cut). By AI agents, Wed Nov 11 2026. No macro, syntax, notation, axiom, sorry.
-/
import Derived.Test.YtadfjjfklihaaaaGreatChecked
import GoSem.Claim
import GoSem.ClaimJoined
import GoSem.ClaimMapViews
import Derived.JoinedTies
import Derived.KernelRfl
namespace Go.Proofs.YtadfjjfklihaaaaGreat
/- THE CELL 'sum', in the pinned program and in every row, IS THE sha256 OF THE DUMP (.gsa) THAT YtadfjjfklihaaaaGreatProg.lean LOADS. Nothing in Lean hashes anything: it is a label: what it is worth is what the hold of that sum in a sandbox is worth. -/
noncomputable def Tryz.pinned : Pinned := { name := "ytadfjjfklihaaaagreat", sum := "c00dd955f449fd2b4a671c79d88c23997743005d7040105209010b40f6adc953", checked := Tryz.checked }
namespace Rows
def none {H : Type} : Left H := { results := [], args := [] }

/-- 'bailiwicklaw11.PairingFirst': WHATEVER THE INPUT: true; the input reads as it did. -/
def pairingFirstSpec : ChangeSpec := { name := "pairingFirst", fn := fun _ => fun
  | [d1, d2, d3] => { results := [.lit (.bool true)], args := [d1, d2, d3] }
  | _ => none }
def pairingFirstRow : OpenClaim := { program := "ytadfjjfklihaaaagreat", sum := "c00dd955f449fd2b4a671c79d88c23997743005d7040105209010b40f6adc953", func := "bailiwick/bailiwicklaw11.PairingFirst", spec := "pairingFirst", inPlace := ["math/bits.Add64", "math/bits.Sub64"], unfollowed := true, recurses := true, named := ["math/bits.divideError", "math/bits.overflowError"], apart := false }
def PairingFirstSaid : Prop := pairingFirstRow.holds Tryz.pinned (OpenSpec.ofChange pairingFirstSpec)

/-- ITS FALSE NEIGHBOUR: 'it returns false'. Refute it at one input. -/
def pairingFirstWrong : ChangeSpec := { name := "pairingFirst", fn := fun _ => fun
  | [d1, d2, d3] => { results := [.lit (.bool false)], args := [d1, d2, d3] }
  | _ => none }
def PairingFirstWrongFalsely : Prop := pairingFirstRow.holds Tryz.pinned (OpenSpec.ofChange pairingFirstWrong)

/-- 'bailiwicklaw11.PairingTwist': WHATEVER THE INPUT: true; the input reads as it did. -/
def pairingTwistSpec : ChangeSpec := { name := "pairingTwist", fn := fun _ => fun
  | [d1, d2, d3] => { results := [.lit (.bool true)], args := [d1, d2, d3] }
  | _ => none }
def pairingTwistRow : OpenClaim := { program := "ytadfjjfklihaaaagreat", sum := "c00dd955f449fd2b4a671c79d88c23997743005d7040105209010b40f6adc953", func := "bailiwick/bailiwicklaw11.PairingTwist", spec := "pairingTwist", inPlace := ["math/bits.Add64", "math/bits.Sub64"], unfollowed := true, recurses := true, named := ["math/bits.divideError", "math/bits.overflowError"], apart := false }
def PairingTwistSaid : Prop := pairingTwistRow.holds Tryz.pinned (OpenSpec.ofChange pairingTwistSpec)

/-- ITS FALSE NEIGHBOUR: 'it returns false'. Refute it at one input. -/
def pairingTwistWrong : ChangeSpec := { name := "pairingTwist", fn := fun _ => fun
  | [d1, d2, d3] => { results := [.lit (.bool false)], args := [d1, d2, d3] }
  | _ => none }
def PairingTwistWrongFalsely : Prop := pairingTwistRow.holds Tryz.pinned (OpenSpec.ofChange pairingTwistWrong)

/-- 'bailiwicklaw11.PairingCalls': WHATEVER THE INPUT: true; the input reads as it did. -/
def pairingCallsSpec : ChangeSpec := { name := "pairingCalls", fn := fun _ => fun
  | [d] => { results := [.lit (.bool true)], args := [d] }
  | _ => none }
def pairingCallsRow : OpenClaim := { program := "ytadfjjfklihaaaagreat", sum := "c00dd955f449fd2b4a671c79d88c23997743005d7040105209010b40f6adc953", func := "bailiwick/bailiwicklaw11.PairingCalls", spec := "pairingCalls", inPlace := ["math/bits.Add64", "math/bits.Sub64"], unfollowed := true, recurses := true, named := ["math/bits.divideError", "math/bits.overflowError"], apart := false }
def PairingCallsSaid : Prop := pairingCallsRow.holds Tryz.pinned (OpenSpec.ofChange pairingCallsSpec)

/-- ITS FALSE NEIGHBOUR: 'it returns false'. Refute it at one input. -/
def pairingCallsWrong : ChangeSpec := { name := "pairingCalls", fn := fun _ => fun
  | [d] => { results := [.lit (.bool false)], args := [d] }
  | _ => none }
def PairingCallsWrongFalsely : Prop := pairingCallsRow.holds Tryz.pinned (OpenSpec.ofChange pairingCallsWrong)

/- THE SECOND FORM. 'bulk': how many values and letters a reading holds, each counted each time it is reached (what is shared counts as often as it is met; a slice's spare places count too). A statement '..UptoSaid' is the law's where the arguments, and the package variables that the reading takes, are together of bulk at most 1048576: NARROWER than '..Said'. Prove '..Said' where nothing that the law and all that it calls make is longer than what came in: it says more and counts as full. Else prove '..UptoSaid'. A law counts once. -/
mutual
def uptoBulk {H : Type} : DataW H → Nat
  | .lit (.string bytes) => bytes.length + 1
  | .lit _ => 1
  | .nil => 1
  | .ptr d => uptoBulk d + 1
  | .slice elems spare => uptoBulkAll elems + uptoBulkAll spare + 1
  | .agg parts => uptoBulkAll parts + 1
  | .iface _ d => uptoBulk d + 1
  | .map entries => uptoBulkEntries entries + 1
  | .held _ => 1
def uptoBulkAll {H : Type} : List (DataW H) → Nat
  | [] => 0
  | d :: r => uptoBulk d + uptoBulkAll r
def uptoBulkEntries {H : Type} : List (Lit × DataW H) → Nat
  | [] => 0
  | x :: r => uptoBulkEntry x + uptoBulkEntries r
def uptoBulkEntry {H : Type} : Lit × DataW H → Nat
  | (.string bytes, d) => bytes.length + uptoBulk d + 1
  | (_, d) => uptoBulk d + 1
 end
def uptoSmall : (H : Type) → List (DataW H) → Bool := fun _ ds => decide (uptoBulkAll ds ≤ 1048576)
def OpenSpec.upto (s : _root_.Go.ChangeSpec) : _root_.Go.OpenSpec := { _root_.Go.OpenSpec.ofChange s with cond := some uptoSmall }

/-- 'bailiwicklaw11.PairingFirst', WHERE WHAT IT READS IS OF BULK AT MOST 1048576: true; the input reads as it did. -/
def pairingFirstUptoRow : OpenClaim := { program := "ytadfjjfklihaaaagreat", sum := "c00dd955f449fd2b4a671c79d88c23997743005d7040105209010b40f6adc953", func := "bailiwick/bailiwicklaw11.PairingFirst", spec := "pairingFirst", inPlace := ["math/bits.Add64", "math/bits.Sub64"], unfollowed := true, recurses := true, named := ["math/bits.divideError", "math/bits.overflowError"], apart := false, narrowed := true }
def PairingFirstUptoSaid : Prop := pairingFirstUptoRow.holds Tryz.pinned (OpenSpec.upto pairingFirstSpec)

/-- 'bailiwicklaw11.PairingTwist', WHERE WHAT IT READS IS OF BULK AT MOST 1048576: true; the input reads as it did. -/
def pairingTwistUptoRow : OpenClaim := { program := "ytadfjjfklihaaaagreat", sum := "c00dd955f449fd2b4a671c79d88c23997743005d7040105209010b40f6adc953", func := "bailiwick/bailiwicklaw11.PairingTwist", spec := "pairingTwist", inPlace := ["math/bits.Add64", "math/bits.Sub64"], unfollowed := true, recurses := true, named := ["math/bits.divideError", "math/bits.overflowError"], apart := false, narrowed := true }
def PairingTwistUptoSaid : Prop := pairingTwistUptoRow.holds Tryz.pinned (OpenSpec.upto pairingTwistSpec)

/-- 'bailiwicklaw11.PairingCalls', WHERE WHAT IT READS IS OF BULK AT MOST 1048576: true; the input reads as it did. -/
def pairingCallsUptoRow : OpenClaim := { program := "ytadfjjfklihaaaagreat", sum := "c00dd955f449fd2b4a671c79d88c23997743005d7040105209010b40f6adc953", func := "bailiwick/bailiwicklaw11.PairingCalls", spec := "pairingCalls", inPlace := ["math/bits.Add64", "math/bits.Sub64"], unfollowed := true, recurses := true, named := ["math/bits.divideError", "math/bits.overflowError"], apart := false, narrowed := true }
def PairingCallsUptoSaid : Prop := pairingCallsUptoRow.holds Tryz.pinned (OpenSpec.upto pairingCallsSpec)

end Rows
end Go.Proofs.YtadfjjfklihaaaaGreat

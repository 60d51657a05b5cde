/- Numbers turned up: what bits.RotateLeft32 comes to. -/
import Derived.Test.YtcmpnnfnkcmpcaaDoorProg
import Derived.WalkKit
import Derived.WalkSpells
import Derived.WalkLawsBesides
import Derived.LoopN
import Derived.Handy
import Derived.Outline
import Derived.RegionTactic
import Derived.BigRegion
import Derived.BigQuiet
import Derived.WalkSmall
import Derived.OwnWalk
import Derived.Lib.Hide
import Derived.Laws.Bits64b
import Derived.Laws.Rows
import Derived.Laws.Tables
import Derived.Laws.OwnMore
import Derived.Laws.CopyOwn
import Derived.Deep.AppendLies
import Derived.Deep.LoopGhost
namespace Go.Proofs.YtcmpnnfnkcmpcaaDoor
open Go.RowKit

/-- A number turned up by s. -/
def rup (s : Nat) (x : Int) : Int := bits .or .u32 (x * 2 ^ s % 4294967296) (x / 2 ^ (32 - s))
theorem and_u64_31 (s : Nat) (h : s < 32) : bits .and .u64 (s : Int) 31 = (s : Int) := by
  have h1 := bits_and_u64_nat s 31 (by omega) (by omega)
  rw [show s &&& 31 = s from by rw [show 31 = 2 ^ 5 - 1 from rfl, Nat.and_two_pow_sub_one_eq_mod, Nat.mod_eq_of_lt h]] at h1
  exact h1
set_option maxRecDepth 100000 in
theorem rot_any (x : Int) (s : Nat) (hs : s < 32) (hs0 : 0 < s) (w : World) : Calls Tryd.prog 56 #[.int .u32 x, .int .i64 s] w fun e w' => e = .returned (.int .u32 (rup s x)) ∧ w = w' := by
  have ha := and_u64_31 s hs
  have hw : IntKind.u64.wrap (s : Int) = (s : Int) := by rw [IntKind.wrap_u64]; omega
  obtain ⟨t, ht⟩ : ∃ t : Nat, (32 : Int) - (s : Int) = (t : Int) := ⟨32 - s, by omega⟩
  have HT : Hid (32 - s = t) := Lib.hid (by omega)
  have h0 : (0 : Int) ≤ s := by omega
  have h1 : (s : Int) < 32 := by omega
  have h2 : (0 : Int) ≤ t := by omega
  have h3 : (t : Int) < 32 := by omega
  clear hs hs0
  go_enter Tryd.func56, Tryd.ntmps56
  go_wp2
  go_ret
  unfold rup
  rw [HT.out]
  exact ⟨rfl, rfl⟩
theorem rot_ten (x : Int) (w : World) : Calls Tryd.prog 56 #[.int .u32 x, .int .i64 10] w fun e w' => e = .returned (.int .u32 (rup 10 x)) ∧ w = w' := rot_any x 10 (by omega) (by omega) w
end Go.Proofs.YtcmpnnfnkcmpcaaDoor

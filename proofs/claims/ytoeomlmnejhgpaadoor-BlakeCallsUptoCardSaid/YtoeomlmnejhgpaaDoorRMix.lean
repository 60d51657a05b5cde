/- RIPEMD-160: numbers mixed, turned up: what ripemd.mixed and bits.RotateLeft32 come to. -/
import Derived.Test.YtoeomlmnejhgpaaDoorProg
import Derived.WalkKit
import Derived.WalkSpells
import Derived.WalkLawsBesides
import Derived.LoopN
import Derived.Handy
import Derived.Outline
import Derived.RegionTactic
import Derived.BigRegion
import Derived.BigQuiet
import Derived.WalkSmall
import Derived.OwnWalk
import Derived.Lib.Hide
import Derived.Laws.Bits64b
import Derived.Laws.Rows
import Derived.Laws.Tables
import Derived.Laws.OwnMore
import Derived.Laws.CopyOwn
import Derived.Deep.AppendLies
import Derived.Deep.LoopGhost
namespace Go.Proofs.YtoeomlmnejhgpaaDoor
open Go.RowKit

/-- Three numbers mixed in one of five ways. -/
def rmx (q : Nat) (b c d : Int) : Int := match q with
  | 0 => bits .xor .u32 (bits .xor .u32 b c) d
  | 1 => bits .or .u32 (bits .and .u32 b c) (bits .and .u32 (bits .xor .u32 IntKind.u32.max b) d)
  | 2 => bits .xor .u32 (bits .or .u32 b (bits .xor .u32 IntKind.u32.max c)) d
  | 3 => bits .or .u32 (bits .and .u32 b d) (bits .andNot .u32 c d)
  | _ => bits .xor .u32 b (bits .or .u32 c (bits .xor .u32 IntKind.u32.max d))
/-- A number turned up by s. -/
def rup (s : Nat) (x : Int) : Int := bits .or .u32 (x * 2 ^ s % 4294967296) (x / 2 ^ (32 - s))
set_option maxRecDepth 100000 in
theorem mixed_any (q : Nat) (hq : q ≤ 4) (b c d : Int) (w : World) : Calls Tryd.prog 85 #[.int .i64 q, .int .u32 b, .int .u32 c, .int .u32 d] w fun e w' => e = .returned (.int .u32 (rmx q b c d)) ∧ w = w' := by
  have h : q = 0 ∨ q = 1 ∨ q = 2 ∨ q = 3 ∨ q = 4 := by omega
  rcases h with rfl | rfl | rfl | rfl | rfl
  all_goals
    go_enter Tryd.func85, Tryd.ntmps85
    go_wp2
    go_ret
    exact ⟨rfl, rfl⟩
theorem and_u64_31 (s : Nat) (h : s < 32) : bits .and .u64 (s : Int) 31 = (s : Int) := by
  have h1 := bits_and_u64_nat s 31 (by omega) (by omega)
  rw [show s &&& 31 = s from by rw [show 31 = 2 ^ 5 - 1 from rfl, Nat.and_two_pow_sub_one_eq_mod, Nat.mod_eq_of_lt h]] at h1
  exact h1
set_option maxRecDepth 100000 in
theorem rot_any (x : Int) (s : Nat) (hs : s < 32) (hs0 : 0 < s) (w : World) : Calls Tryd.prog 86 #[.int .u32 x, .int .i64 s] w fun e w' => e = .returned (.int .u32 (rup s x)) ∧ w = w' := by
  have ha := and_u64_31 s hs
  have hw : IntKind.u64.wrap (s : Int) = (s : Int) := by rw [IntKind.wrap_u64]; omega
  obtain ⟨t, ht⟩ : ∃ t : Nat, (32 : Int) - (s : Int) = (t : Int) := ⟨32 - s, by omega⟩
  have HT : Hid (32 - s = t) := Lib.hid (by omega)
  have h0 : (0 : Int) ≤ s := by omega
  have h1 : (s : Int) < 32 := by omega
  have h2 : (0 : Int) ≤ t := by omega
  have h3 : (t : Int) < 32 := by omega
  clear hs hs0
  go_enter Tryd.func86, Tryd.ntmps86
  go_wp2
  go_ret
  unfold rup
  rw [HT.out]
  exact ⟨rfl, rfl⟩
theorem mixed_q (q : Nat) (hq : q ≤ 4) (b c d : Int) (w : World) : Calls Tryd.prog 85 #[.int .i64 q, .int .u32 b, .int .u32 c, .int .u32 d] w fun e w' => e = .returned (.int .u32 (rmx q b c d)) ∧ w' = w :=
  (mixed_any q hq b c d w).mono fun _ _ ⟨h1, h2⟩ => ⟨h1, h2.symm⟩
theorem rot_ten (x : Int) (w : World) : Calls Tryd.prog 86 #[.int .u32 x, .int .i64 10] w fun e w' => e = .returned (.int .u32 (rup 10 x)) ∧ w = w' := rot_any x 10 (by omega) (by omega) w
end Go.Proofs.YtoeomlmnejhgpaaDoor

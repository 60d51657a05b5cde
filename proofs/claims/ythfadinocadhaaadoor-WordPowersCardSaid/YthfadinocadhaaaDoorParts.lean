/- What word.parts comes to, called with any slice of parts: how many there are without the noughts behind. -/
import Derived.Test.YthfadinocadhaaaDoorMuls
namespace Go.Proofs.YthfadinocadhaaaDoor
open Go.RowKit

/-- How many of the first n parts there are without the noughts behind. -/
def np (xs : Nat → Nat) : Nat → Nat
  | 0 => 0
  | n + 1 => if xs n = 0 then np xs n else n + 1

set_option maxRecDepth 100000 in
set_option maxHeartbeats 400000 in
theorem parts_any (b o L cap : Nat) (xs : Nat → Nat) (hL : (L : Int) ≤ 1000000) (w : World)
    (hc : ∀ j, j < L → w.cell? ⟨b, o + j, none⟩ = some (.int .u64 (xs j))) :
    Calls Tryd.prog 94 #[.slice (some ⟨b, o, none⟩) L cap] w fun e w' => e = .returned (.int .i64 (np xs L : Nat)) ∧ w = w' := by
  have HC := Lib.hid hc; clear hc
  go_enter Tryd.func94, Tryd.ntmps94
  go_wp2
  go_loop [3] (fun n => ∃ k : Nat, k ≤ L ∧ n = .int .i64 k ∧ Hid (np xs k = np xs L)) (fun n => (intOf n).toNat)
  case atStart => exact ⟨L, Nat.le_refl _, rfl, Lib.hid rfl⟩
  case round =>
    obtain ⟨k, hk, rfl, hn⟩ := hrel
    have hk' : (k : Int) ≤ 1000000 := by omega
    rcases k with _ | j
    · go_wp2
      go_ret
      exact ⟨by rw [← hn.out]; rfl, rfl⟩
    · have hj : (0 : Int) ≤ j := by omega
      have hj' : (j : Int) ≤ 1000000 := by omega
      have c := HC.out j (by omega)
      by_cases hx : xs j = 0
      · have hr : np xs j = np xs L := by rw [← hn.out]; simp [np, hx]
        have HR := Lib.hid hr
        clear hr
        rw [hx] at c
        clear hn
        go_wp2
        go_round
        case rel => exact ⟨j, by omega, rfl, HR⟩
        case measure => simp [intOf]
      · have hr : j + 1 = np xs L := by rw [← hn.out]; simp [np, hx]
        have HR := Lib.hid hr
        clear hr hn
        have hx' : ((xs j : Int) == 0) = false := by simp [hx]
        go_wp2
        go_ret
        exact ⟨by rw [← HR.out]; simp, rfl⟩
end Go.Proofs.YthfadinocadhaaaDoor

/- Whether all bytes are nibbles: what fit comes to. -/
import Derived.Test.YtaopmcpihdcaiaaNOf
namespace Go.Proofs.Ytaopmcpihdcaiaa
open Go.RowKit

/-- All of n are nibbles. -/
def fitB (n : Nat) (f : Nat → Nat) : Bool := decide (∀ j, j < n → f j ≤ 15)
set_option maxRecDepth 100000 in
theorem big_any (x : Nat) (w : World) : Calls Try.prog 19 #[.int .u8 (x : Nat)] w fun e w' => e = .returned (.bool (decide (15 < x))) ∧ w' = w := by
  have e : decide ((15 : Int) < (x : Int)) = decide (15 < x) := by
    by_cases h : 15 < x
    · have h2 : (15 : Int) < x := by omega
      simp [h, h2]
    · have h2 : ¬ (15 : Int) < x := by omega
      simp [h, h2]
  go_enter Try.func19, Try.ntmps19
  go_wp2_with fail
  go_ret
  exact ⟨by first | rfl | (rw [← e]), rfl⟩
set_option maxRecDepth 100000 in
set_option maxHeartbeats 2000000 in
theorem index_any {n : Nat} {f : Nat → Nat} {v : Value} {w : World} (hn : n ≤ 140737488355328) (hP : ArgB w v n f) : Calls Try.prog 21 #[v, .func (.func 19) #[] #[]] w fun e w' => (∃ z : Int, e = .returned (.int .i64 z) ∧ ((z = -1 ∧ ∀ j, j < n → f j ≤ 15) ∨ (0 ≤ z ∧ ∃ j, j < n ∧ 15 < f j))) ∧ w' = w := by
  have HP := Lib.hid hP
  obtain ⟨a, cap, rfl, hc, hn0, hr⟩ := hP
  clear hr hn0 hc
  go_enter Try.func21, Try.ntmps21
  go_wp2_with fail
  go_loopw [8] (fun iv wr => ∃ k : Nat, k ≤ n ∧ iv = .int .i64 k ∧ (∀ j, j < k → f j ≤ 15) ∧ w = wr) (fun iv _ => n - (intOf iv).toNat)
  case atStart => exact ⟨0, by omega, rfl, fun j hj => by omega, rfl⟩
  case round =>
    obtain ⟨k, hk, rfl, hl, rfl⟩ := hrel
    have HL := Lib.hid hl; clear hl
    have hk0 : (0 : Int) ≤ k := by omega
    by_cases hlt : k < n
    · have hlt' : (k : Int) < n := by omega
      obtain ⟨a2, cap2, e, -, -, hr⟩ := HP.out
      obtain ⟨p, hix, hpl, hpc⟩ := hr.at_ cap2 k hlt
      injection e with e1 e2 e3
      subst e1 e3
      obtain ⟨x, hx⟩ : ∃ x, f k = x := ⟨_, rfl⟩
      rw [hx] at hpc
      clear hr
      by_cases hb : 15 < x
      · have hd : decide (15 < x) = true := by simp [hb]
        have hc := big_any x w
        rw [hd] at hc
        have HC := Lib.hid hc
        have HB := Lib.hid (And.intro hb hx)
        clear hc hb hx hd
        go_wp2_with (go_at_call 19; refine HC.out.mono ?_; rintro e w' ⟨rfl, rfl⟩)
        go_ret
        exact ⟨⟨_, rfl, .inr ⟨by omega, k, hlt, by rw [HB.out.2]; exact HB.out.1⟩⟩, rfl⟩
      · have hd : decide (15 < x) = false := by simp [hb]
        have hc := big_any x w
        rw [hd] at hc
        have HC := Lib.hid hc
        have HB := Lib.hid (And.intro hb hx)
        clear hc hb hx hd
        go_wp2_with (go_at_call 19; refine HC.out.mono ?_; rintro e w' ⟨rfl, rfl⟩)
        go_roundw
        case rel => exact ⟨k + 1, by omega, by go_num, fun j hj => by
          by_cases h : j < k
          · exact HL.out j h
          · obtain rfl : j = k := by omega
            have := HB.out.1
            rw [HB.out.2]
            omega, trivial⟩
        case measure => simp [intOf]; omega
    · obtain rfl : k = n := by omega
      have hlt' : ¬ (k : Int) < k := by omega
      go_wp2_with fail
      go_ret
      exact ⟨⟨_, rfl, .inl ⟨rfl, HL.out⟩⟩, rfl⟩
set_option maxRecDepth 100000 in
theorem contains_any {n : Nat} {f : Nat → Nat} {v : Value} {w : World} (hn : n ≤ 140737488355328) (hP : ArgB w v n f) : Calls Try.prog 18 #[v, .func (.func 19) #[] #[]] w fun e w' => e = .returned (.bool (!fitB n f)) ∧ w' = w := by
  have HC := Lib.hid (index_any hn hP)
  clear hP
  go_enter Try.func18, Try.ntmps18
  go_wp2_with (go_at_call 21; refine HC.out.mono ?_; rintro e w' ⟨⟨z, rfl, hz⟩, rfl⟩)
  go_ret
  refine ⟨?_, rfl⟩
  rcases hz with ⟨rfl, h⟩ | ⟨h1, j, hj, h2⟩
  · simpa [fitB] using h
  · have e : fitB n f = false := by
      unfold fitB
      rw [decide_eq_false_iff_not]
      intro h
      have := h j hj
      omega
    simp [e, h1]
set_option maxRecDepth 100000 in
-- WHAT fit COMES TO.
theorem fit_any {n : Nat} {f : Nat → Nat} {v : Value} {w : World} (hn : n ≤ 140737488355328) (hP : ArgB w v n f) : Calls Try.prog 16 #[v] w fun e w' => e = .returned (.bool (fitB n f)) ∧ w' = w := by
  have HC := Lib.hid (contains_any hn hP)
  clear hP
  go_enter Try.func16, Try.ntmps16
  go_wp2_with (go_at_call 18; refine HC.out.mono ?_; rintro e w' ⟨rfl, rfl⟩)
  go_ret
  exact ⟨by simp, rfl⟩
end Go.Proofs.Ytaopmcpihdcaiaa

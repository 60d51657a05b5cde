/- nibble.Common: what it comes to. -/
import Derived.Test.YtaopmcpihdcaiaaNRPack
namespace Go.Proofs.Ytaopmcpihdcaiaa
open Go.RowKit

/-- How many begin alike. -/
def ComA (n m : Nat) (f g : Nat → Nat) (c : Nat) : Prop := c ≤ n ∧ c ≤ m ∧ (∀ j, j < c → f j = g j) ∧ (c = n ∨ c = m ∨ f c ≠ g c)
set_option maxRecDepth 100000 in
set_option maxHeartbeats 4000000 in
theorem common_any {n m : Nat} {f g : Nat → Nat} {u v : Value} {w : World} (hn : n ≤ 140737488355328) (hm : m ≤ 140737488355328) (hP : ArgB w u n f) (hR : ArgB w v m g) : Calls Try.prog 15 #[u, v] w fun e w' => ∃ c : Nat, e = .returned (.int .i64 (c : Int)) ∧ ComA n m f g c ∧ Below w.heap.size w w' := by
  have HP := Lib.hid (And.intro hP hR)
  obtain ⟨a, cap, rfl, hc, hn0, hr⟩ := hP
  obtain ⟨b, cap2, rfl, hc2, hm0, hr2⟩ := hR
  clear hr hr2 hn0 hm0 hc hc2
  go_enter Try.func15, Try.ntmps15
  go_wp2_with fail
  go_loopw [5] (fun iv wr => ∃ k : Nat, k ≤ n ∧ k ≤ m ∧ iv = .int .i64 k ∧ Hid ((∀ j, j < k → f j = g j) ∧ Below w.heap.size w wr)) (fun iv _ => n - (intOf iv).toNat)
  case atStart => exact ⟨0, by omega, by omega, rfl, Lib.hid ⟨fun j hj => by omega, Below.refl _ _⟩⟩
  case round =>
    obtain ⟨k, hk, hk2, rfl, H⟩ := hrel
    have hk0 : (0 : Int) ≤ k := by omega
    obtain ⟨s, hs⟩ : ∃ s, min n m = s := ⟨_, rfl⟩
    have hs1 : (if m < n then (m : Int) else (n : Int)) = (s : Int) := by split <;> omega
    by_cases hlt : k < s
    · have hlt' : (k : Int) < s := by omega
      obtain ⟨a2, c2, e, -, -, hr⟩ := HP.out.1.below (H.out.2.mono (Nat.le_refl _))
      obtain ⟨p, hix, hpl, hpc⟩ := hr.at_ c2 k (by omega)
      injection e with e1 e2 e3
      subst e1 e3
      obtain ⟨b2, d2, e, -, -, hr2⟩ := HP.out.2.below (H.out.2.mono (Nat.le_refl _))
      obtain ⟨q, hiy, hql, hqc⟩ := hr2.at_ d2 k (by omega)
      injection e with e1 e2 e3
      subst e1 e3
      obtain ⟨x, hx⟩ : ∃ x, f k = x := ⟨_, rfl⟩
      obtain ⟨y, hy⟩ : ∃ y, g k = y := ⟨_, rfl⟩
      rw [hx] at hpc
      rw [hy] at hqc
      have HS := Lib.hid hs
      clear hs hr hr2
      by_cases hxy : x = y
      · subst hxy
        have HX := Lib.hid (show f k = g k by rw [hx, hy])
        clear hx hy
        go_wp2_with fail
        go_quiet (fail)
        go_wp2_with fail
        go_roundw
        case rel => exact ⟨k + 1, by have := HS.out; omega, by have := HS.out; omega, by go_num, Lib.hid ⟨fun j hj => by
          by_cases h : j < k
          · exact H.out.1 j h
          · obtain rfl : j = k := by omega
            exact HX.out, below_drewN H.out.2⟩⟩
        case measure => have := HS.out; simp [intOf]; omega
      · have hxy' : ((x : Int) == (y : Int)) = false := by simp; omega
        have HX := Lib.hid (show f k ≠ g k by rw [hx, hy]; exact hxy)
        clear hx hy hxy
        go_wp2_with fail
        go_quiet (fail)
        go_wp2_with fail
        go_ret
        exact ⟨k, rfl, ⟨hk, hk2, H.out.1, .inr (.inr HX.out)⟩, below_drewN H.out.2⟩
    · have hlt' : ¬ (k : Int) < s := by omega
      have HS := Lib.hid (show k = n ∨ k = m by omega)
      clear hs
      go_wp2_with fail
      go_quiet (fail)
      go_wp2_with fail
      go_ret
      exact ⟨k, rfl, ⟨hk, hk2, H.out.1, by rcases HS.out with h | h <;> simp [h]⟩, below_drewN H.out.2⟩
end Go.Proofs.Ytaopmcpihdcaiaa

/- What nat.guess comes to. -/
import Derived.Test.YtgegkffigjogcaaNHigh
import Derived.Deep.RegionWith
namespace Go.Proofs.Ytgegkffigjogcaa
open Go.RowKit

/-- The two highest of n parts as one number. -/
def hiN (f : Nat → Nat) : Nat → Nat
  | 0 => 0
  | 1 => f 0 * 4294967296
  | k + 2 => f (k + 1) * 4294967296 + f k
theorem hiN_lt {f : Nat → Nat} : ∀ {n : Nat}, (∀ j, j < n → f j < 4294967296) → hiN f n < 18446744073709551616
  | 0, _ => by show 0 < _; omega
  | 1, h => by have := h 0 (by omega); show f 0 * 4294967296 < _; omega
  | k + 2, h => by have := h (k + 1) (by omega); have := h k (by omega); show f (k + 1) * 4294967296 + f k < _; omega
theorem hiN_ge {f : Nat → Nat} {k : Nat} (h : 2147483648 ≤ f k) : 9223372036854775808 ≤ hiN f (k + 1) := by
  cases k with
  | zero => show _ ≤ f 0 * 4294967296; omega
  | succ k => show _ ≤ f (k + 1) * 4294967296 + f k; omega
theorem highest_any (a : Option Addr) (k cap : Nat) (f : Nat → Nat) (hf : ∀ j, j < k + 1 → f j < 4294967296) (hn : (k : Int) ≤ 34000000000) (w : World) (hR : RdA w a (k + 1) f) :
    Calls Try.prog 78 #[.slice a ((k + 1 : Nat)) cap] w fun e w' => e = .returned (.int .u64 ((hiN f (k + 1) : Nat) : Int)) ∧ w = w' := by
  cases k with
  | zero => exact highest_one a cap f (hf 0 (by omega)) w hR
  | succ k => exact highest_two a k cap f hf (by omega) w hR

/-- What guess tells. -/
def gsN (r d : Nat → Nat) (n : Nat) : Nat := min ((r n * 18446744073709551616 + hiN r n) / hiN d n) 4294967295

set_option maxRecDepth 100000 in
set_option maxHeartbeats 1000000 in
theorem guess_any (S o capS : Nat) (a : Option Addr) (k capD : Nat) (r d : Nat → Nat) (hn : (k : Int) ≤ 34000000000) (hc : k + 1 ≤ capS) (hr : ∀ j, j < k + 2 → r j < 4294967296) (hd : ∀ j, j < k + 1 → d j < 4294967296) (hdk : 2147483648 ≤ d k) (w : World) (hP : Pt w S o (k + 2) r) (hR : RdA w a (k + 1) d) :
    Calls Try.prog 74 #[.slice (some ⟨S, o, none⟩) ((k + 2 : Nat)) capS, .slice a ((k + 1 : Nat)) capD] w fun e w' => e = .returned (.int .u32 ((gsN r d (k + 1) : Nat) : Int)) ∧ ∃ m, w' = w.drewN m := by
  have hk0 : (0 : Int) ≤ k := by omega
  have c1 : w.cell? ⟨S, o + (k + 1), none⟩ = some (.int .u32 (r (k + 1) : Nat)) := hP.2 (k + 1) (by omega)
  have hsl' := slice_nat (some ⟨S, o, none⟩) (k + 2) capS (k + 1) (by omega)
  have hsl : ∀ w, (Instr.slice 23 (.slice (some ⟨S, o, none⟩) (k + 2) capS) none (some (.int .i64 ((k : Int) + 1))) none).run Try.prog w = .ok (.slice (some ⟨S, o, none⟩) (k + 1) capS) w := hsl'
  clear hsl'
  have hw : IntKind.u64.wrap ((r (k + 1) : Nat) : Int) = ((r (k + 1) : Nat) : Int) := by rw [IntKind.wrap_u64]; have := hr (k + 1) (by omega); omega
  have h1 := highest_any (some ⟨S, o, none⟩) k capS r (fun j hj => hr j (by omega)) hn w.drew (.inr ⟨S, o, rfl, hP.1, fun j hj => hP.2 j (by omega)⟩)
  have h2 := highest_any a k capD d hd hn w.drew hR
  have h3 := div64_any (r (k + 1)) (hiN r (k + 1)) (hiN d (k + 1)) (by have := hr (k + 1) (by omega); omega) (hiN_lt (fun j hj => hr j (by omega))) (hiN_lt hd) (hiN_ge hdk) (by have := hr (k + 1) (by omega); have := hiN_ge hdk; omega) w.drew
  obtain ⟨A, hA⟩ : ∃ A, hiN r (k + 1) = A := ⟨_, rfl⟩
  obtain ⟨D, hD⟩ : ∃ D, hiN d (k + 1) = D := ⟨_, rfl⟩
  obtain ⟨x, hx⟩ : ∃ x, r (k + 1) = x := ⟨_, rfl⟩
  have hg : gsN r d (k + 1) = min ((x * 18446744073709551616 + A) / D) 4294967295 := by unfold gsN; rw [hA, hD, hx]
  rw [hA] at h1 h3
  rw [hD] at h2 h3
  rw [hx] at h3 c1 hw
  obtain ⟨Q, hQ⟩ : ∃ Q, (x * 18446744073709551616 + A) / D = Q := ⟨_, rfl⟩
  rw [hQ] at h3 hg
  rw [hg]
  clear hA hD hx hQ hg hr hd hdk hP hR
  have H1 := Lib.hid h1; clear h1
  have H2 := Lib.hid h2; clear h2
  have H3 := Lib.hid h3; clear h3
  go_enter Try.func74, Try.ntmps74
  go_wp2_with fail
  go_region_with (first | (go_at_call 78; ((with_reducible refine H1.out.mono ?_); rintro e w' ⟨rfl, rfl⟩)) | (go_at_call 78; ((with_reducible refine H2.out.mono ?_); rintro e w' ⟨rfl, rfl⟩)) | (go_at_call 77; ((with_reducible refine H3.out.mono ?_); rintro e w' ⟨⟨rr, rfl⟩, m, rfl⟩)))
  all_goals
    go_wp2
    go_ret
    refine ⟨?_, 1 + m, ?_⟩
    · show Ending.returned (.int .u32 (min (Q : Int) 4294967295)) = _
      congr 2
      omega
    · rw [← World.drewN_drewN]
end Go.Proofs.Ytgegkffigjogcaa

/- The laws' helper: any path is packed; what the laws' walks want. -/
import Derived.Test.YtaopmcpihdcaiaaNCom
namespace Go.Proofs.Ytaopmcpihdcaiaa
open Go.RowKit

theorem packA_ok {w w' : World} {n : Nat} {f : Nat → Nat} {l : Bool} {e : Ending} (h : PackA w n f l e w') (hf : fitB n f = true) : ∃ v, e = .returned (.tuple #[v, .int .i64 0]) ∧ ArgB w' v (1 + n / 2) (jn (pnib n f l)) ∧ Below w.heap.size w w' := by
  obtain ⟨h1 | h1, hb⟩ := h
  · obtain ⟨-, v, rfl, hv⟩ := h1
    exact ⟨v, rfl, hv, hb⟩
  · rw [hf] at h1
    cases h1.1
theorem unA_ok {w w' : World} {n : Nat} {f : Nat → Nat} {e : Ending} (h : UnA w n f e w') (hf : unOk n f = true) : ∃ v, e = .returned (.tuple #[v, .bool (decide (2 ≤ f 0 / 16)), .int .i64 0]) ∧ ArgB w' v (2 * n - (2 - f 0 / 16 % 2)) (fun j => hv f ((2 - f 0 / 16 % 2) + j)) ∧ Below w.heap.size w w' := by
  obtain ⟨h1 | h1, hb⟩ := h
  · obtain ⟨-, v, rfl, hv⟩ := h1
    exact ⟨v, rfl, hv, hb⟩
  · rw [hf] at h1
    cases h1.1
/-- Bytes, nought beyond them. -/
def tr (n : Nat) (f : Nat → Nat) (j : Nat) : Nat := if j < n then f j else 0
theorem tr_lt {n : Nat} {f : Nat → Nat} {b : Nat} (hb : 0 < b) (h : ∀ j, j < n → f j < b) (j : Nat) : tr n f j < b := by
  unfold tr
  split
  · exact h j (by assumption)
  · exact hb
theorem tr_at {n : Nat} {f : Nat → Nat} {j : Nat} (h : j < n) : tr n f j = f j := if_pos h
theorem argb_congr {w : World} {v : Value} {n : Nat} {f g : Nat → Nat} (h : ArgB w v n f) (e : ∀ j, j < n → f j = g j) : ArgB w v n g := by
  obtain ⟨a, c, h1, h2, h3, h4⟩ := h
  refine ⟨a, c, h1, h2, h3, ?_⟩
  rcases h4 with h4 | ⟨b, o, h5, h6, h7⟩
  · exact .inl h4
  · exact .inr ⟨b, o, h5, h6, fun j hj => by rw [h7 j hj, e j hj]⟩
theorem argb_tr {w : World} {v : Value} {n : Nat} {f : Nat → Nat} (h : ArgB w v n f) : ArgB w v n (tr n f) := argb_congr h fun _ hj => (tr_at hj).symm
theorem pnib_le {n : Nat} {f : Nat → Nat} {l : Bool} (h : ∀ j, j < n → f j ≤ 15) (j : Nat) (hj : j < 2 * (1 + n / 2)) : pnib n f l j ≤ 15 := by
  have hl : lf l ≤ 2 := by unfold lf; split <;> omega
  unfold pnib
  split
  · split
    · omega
    · split
      · omega
      · exact h _ (by omega)
  · split
    · omega
    · exact h _ (by omega)
theorem jn_lt {n : Nat} {f : Nat → Nat} (h : ∀ j, j < 2 * n → f j ≤ 15) (j : Nat) (hj : j < n) : jn f j < 256 := by
  unfold jn
  have := h (2 * j) (by omega)
  have := h (2 * j + 1) (by omega)
  omega
def f3 (j : Nat) : Nat := if j < 3 then j + 1 else 0
set_option maxRecDepth 100000 in
set_option maxHeartbeats 2000000 in
theorem lives_any (w : World) : Calls Try.prog 10 #[] w fun e w' => e = .returned (.bool true) ∧ Below w.heap.size w w' := by
  have hb1 : Below w.heap.size w (w.alloc (.cells #[.int .u8 1, .int .u8 2, .int .u8 3] 5)) := by go_grown
  have hm := own_lit (base := w.heap.size) w #[.int .u8 1, .int .u8 2, .int .u8 3] 3 (Nat.le_refl _) (by decide) (by simp)
  have hA : ArgB (w.alloc (.cells #[.int .u8 1, .int .u8 2, .int .u8 3] 5)) (.slice (some ⟨w.heap.size, 0, none⟩) 3 3) 3 f3 := own_arg hm
  have HB := Lib.hid hb1
  have HP := Lib.hid (pack_any (l := true) (by omega) hA)
  clear hb1 hm hA
  go_enter Try.func10, Try.ntmps10
  go_wp2_with (first | (go_at_call 11; refine HP.out.mono ?_; intro e w1 h1; obtain ⟨v, rfl, hv, hb⟩ := packA_ok h1 (by kernel_rfl); have H1 := Lib.hid (And.intro hv (HB.out.trans (hb.mono HB.out.size))); clear h1 hv hb) | (go_at_call 13; refine (unpack_any (n := 2) (f := tr 2 (jn (pnib 3 f3 true))) (by omega) (tr_lt (by omega) (fun j hj => jn_lt (n := 2) (fun j hj => pnib_le (by decide) j hj) j hj)) (argb_tr H1.out.1)).mono ?_; intro e w2 h2; obtain ⟨u, rfl, hu, hb⟩ := unA_ok h2 (by kernel_rfl); have c1 := str_run (H1.out.1.below (hb.mono (Nat.le_refl _))); have c2 := str_run hu; rw [show strB _ (jn (pnib 3 f3 true)) = ByteArray.mk #[49, 35] by kernel_rfl] at c1; rw [show strB _ _ = ByteArray.mk #[1, 2, 3] by kernel_rfl] at c2; have H2 := Lib.hid (H1.out.2.trans (hb.mono H1.out.2.size)); clear h2 hu hb))
  go_ret
  exact ⟨by kernel_rfl, H2.out⟩
end Go.Proofs.Ytaopmcpihdcaiaa

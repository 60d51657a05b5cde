/- nibble.Bytes: what it comes to. -/
import Derived.Test.YtaopmcpihdcaiaaNJoin
namespace Go.Proofs.Ytaopmcpihdcaiaa
open Go.RowKit

/-- Whether nibbles are bytes'. -/
def okN (n : Nat) (f : Nat → Nat) : Bool := decide (n % 2 = 0) && fitB n f
/-- What Bytes answers. -/
def BytesA (w : World) (n : Nat) (f : Nat → Nat) (e : Ending) (w' : World) : Prop := ((okN n f = true ∧ ∃ v, e = .returned (.tuple #[v, .int .i64 0]) ∧ ArgB w' v (n / 2) (jn f)) ∨ (okN n f = false ∧ e = .returned (.tuple #[.slice none 0 0, .int .i64 4]))) ∧ Below w.heap.size w w'
theorem fit_le {n : Nat} {f : Nat → Nat} (h : fitB n f = true) : ∀ j, j < n → f j ≤ 15 := of_decide_eq_true h
set_option maxRecDepth 100000 in
set_option maxHeartbeats 2000000 in
theorem bytes_any {n : Nat} {f : Nat → Nat} {v : Value} {w : World} (hn : n ≤ 4000000) (hP : ArgB w v n f) : Calls Try.prog 7 #[v] w (BytesA w n f) := by
  have HP := Lib.hid hP
  have HC := Lib.hid (fit_any (show n ≤ 140737488355328 by omega) hP)
  obtain ⟨a, cap, rfl, hc, hn0, hr⟩ := hP
  clear hr hn0 hc
  by_cases hev : n % 2 = 0
  · have h2 : ((n : Int) % 2 != 0) = false := by simp; omega
    cases hfit : fitB n f with
    | false =>
      rw [hfit] at HC
      have HK := Lib.hid (show okN n f = false by simp [okN, hfit])
      clear hev hfit
      go_enter Try.func7, Try.ntmps7
      go_wp2_with (go_at_call 16; refine HC.out.mono ?_; rintro e w' ⟨rfl, rfl⟩)
      go_ret2
      exact ⟨.inr ⟨HK.out, rfl⟩, Below.refl _ _⟩
    | true =>
      rw [hfit] at HC
      have HK := Lib.hid (show okN n f = true by simp [okN, hfit, hev])
      have HL := Lib.hid (fit_le hfit)
      obtain ⟨m, hm⟩ : ∃ m, n / 2 = m := ⟨_, rfl⟩
      have hm1 : (n : Int) / 2 = (m : Int) := by omega
      have hm0 : (0 : Int) ≤ m := by omega
      have HM := Lib.hid (show n = 2 * m by omega)
      have HM2 := Lib.hid hm
      obtain ⟨i0, hi, hz0, hz1, hz2⟩ := info_partsB info8
      clear hev hfit hm
      have hml : m ≤ 4000000 := by have := HM.out; omega
      go_enter Try.func7, Try.ntmps7
      go_wp2_with (first | (go_at_call 16; refine HC.out.mono ?_; rintro e w' ⟨rfl, rfl⟩) | (at_make; refine wpList_make_own _ rfl _ _ 22 rfl w'.heap.size 5 i0 (.int .u8 0) 1 Try.underlying22 hi hz0 hz1 .i64 .i64 _ m rfl rfl rfl (by rw [hz2]; omega) (by unfold maxLen; omega) (Nat.le_refl _) ?_; intro w1 hown1 hgrow1; have H1 := Lib.hid (join_any (w0 := w') (w := w1) (m := m) (k := 0) (g := fun _ => 0) (f := f) hml (by omega) (by rw [← HM.out]; exact HL.out) (by rw [← HM.out]; exact HP.out) ((Below.refl _ _).grown hgrow1 (by simp) (fun k hk => by cases hk)) (by simpa [Own8, p8] using hown1)); clear hown1 hgrow1) | (go_at_call 17; refine H1.out.mono ?_; rintro e w2 ⟨v2, rfl, ho2, hb2⟩; have H2 := Lib.hid (And.intro ho2 hb2); clear ho2 hb2 H1))
      go_ret2
      refine ⟨.inl ⟨HK.out, _, rfl, ?_⟩, H2.out.2⟩
      rw [HM2.out]
      have := own_arg H2.out.1
      rw [Nat.zero_add] at this
      exact this
  · have h2 : ((n : Int) % 2 != 0) = true := by simp; omega
    have HK := Lib.hid (show okN n f = false by simp [okN, hev])
    clear hev
    go_enter Try.func7, Try.ntmps7
    go_wp2_with fail
    go_ret2
    exact ⟨.inr ⟨HK.out, rfl⟩, Below.refl _ _⟩
end Go.Proofs.Ytaopmcpihdcaiaa

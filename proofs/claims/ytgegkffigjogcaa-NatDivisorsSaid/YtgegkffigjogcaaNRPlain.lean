/- What the reference's Plain comes to. -/
import Derived.Test.YtgegkffigjogcaaNPow
import Derived.Test.YtgegkffigjogcaaNOwn
namespace Go.Proofs.Ytgegkffigjogcaa
open Go.RowKit

set_option maxRecDepth 100000 in
set_option maxHeartbeats 1000000 in
theorem refplain_some (q : Addr) (n cap : Nat) (f : Nat → Nat) (hn : (n : Int) ≤ 35184372088832) (hc : n ≤ cap) (w : World) (hP : RdA w (some q) n f) :
    Calls Try.prog 25 #[.slice (some q) n cap] w (MkN (tn f n) f w) := by
  have HP := Lib.hid hP; clear hP
  have hsl : ∀ h : Nat, (h : Int) ≤ cap → ∀ w, (Instr.slice 23 (.slice (some q) n cap) none (some (.int .i64 (h : Int))) none).run Try.prog w = .ok (.slice (some q) h cap) w := fun h hh w => slice_nat (some q) n cap h hh w
  have HSL := Lib.hid hsl; clear hsl
  obtain ⟨i0, hi, hz0, hz1, hz2⟩ := info_parts info32
  go_enter Try.func25, Try.ntmps25
  go_wp2
  go_loop [3] (fun iv => ∃ k : Nat, k ≤ n ∧ iv = .int .i64 k ∧ Hid (tn f n = tn f k)) (fun iv => (intOf iv).toNat)
  case atStart => exact ⟨n, Nat.le_refl _, rfl, Lib.hid rfl⟩
  case round =>
    obtain ⟨k, hk, rfl, H⟩ := hrel
    have hkb : (k : Int) ≤ 35184372088832 := by omega
    have hk00 : (0 : Int) ≤ k := by omega
    by_cases hz : k ≠ 0 ∧ f (k - 1) = 0
    · obtain ⟨hk0, hz⟩ := hz
      obtain ⟨i, hi'⟩ : ∃ i : Nat, (k : Int) - 1 = (i : Int) := ⟨k - 1, by omega⟩
      have hik : k = i + 1 := by omega
      have hi0 : (0 : Int) ≤ i := by omega
      have hi1 : (i : Int) < n := by omega
      have hk1 : (0 : Int) < k := by omega
      rw [show k - 1 = i by omega] at hz
      obtain ⟨p, hx, -, -, ca⟩ := HP.out.at_ cap i (by omega)
      have hz' : ((f i : Nat) : Int) = 0 := by omega
      have hz2' : (((f i : Nat) : Int) == 0) = true := by simp [hz]
      have HZ := Lib.hid (And.intro hz hik); clear hz hik
      go_wp2
      go_round
      case rel => exact ⟨i, by omega, rfl, Lib.hid (by rw [H.out, HZ.out.2, tn, if_pos HZ.out.1])⟩
      case measure => simp [intOf]; omega
    · have e : tn f n = k := by
        rw [H.out]
        rcases Nat.eq_zero_or_pos k with h | h
        · rw [h]; rfl
        · obtain ⟨i, rfl⟩ : ∃ i, k = i + 1 := ⟨k - 1, by omega⟩
          rw [tn, if_neg (fun h2 => hz ⟨by omega, by simpa using h2⟩)]
      have hs := HSL.out k (by omega)
      have hw := HP.out.less k hk
      have hst : k = 0 ∨ f (k - 1) ≠ 0 := by
        rcases Nat.eq_zero_or_pos k with h | h
        · exact .inl h
        · exact .inr (fun h2 => hz ⟨by omega, h2⟩)
      have HE := Lib.hid (And.intro e hw)
      clear e hw hz H
      rcases Nat.eq_zero_or_pos k with h0 | h0
      · have hk1 : ¬ (0 : Int) < k := by omega
        clear h0 hst
        go_wp2_with (at_builtin; refine wpList_append_own _ rfl _ _ 23 rfl w.heap.size 32 i0 (.int .u32 0) 1 4 Try.underlying23 hi hz0 hz1 hz2 rfl (by decide) _ 0 [] rfl (World.ownsRow_made (base := w.heap.size) (e := 32) (size := 1) w #[] 0 (by simp) (by decide) (by simp)) q k cap (pl f k) rfl (by rw [pl_len, Nat.mul_one]) ?c1 ?c2 ?c3 ?c4 ?c5 ?_)
        case c1 => exact rd_add (HE.out.2.below ((Below.refl _ _).alloc (Nat.le_refl _) _)) q rfl
        case c2 => exact one_pl f k
        case c3 => unfold maxLen; omega
        case c4 => omega
        intro v' w1 hown' hgrow _
        have HF := Lib.hid (mk_own (w := w) hown' (Nat.le_refl _) (((Below.refl _ _).alloc (Nat.le_refl _) _).grown hgrow (by simp) (fun j hj => by cases hj; exact Nat.le_refl _)))
        clear hown' hgrow
        go_wp2
        go_ret
        rw [HE.out.1]
        exact HF.out
      · obtain ⟨i, hi'⟩ : ∃ i : Nat, (k : Int) - 1 = (i : Int) := ⟨k - 1, by omega⟩
        have hi0 : (0 : Int) ≤ i := by omega
        have hi1 : (i : Int) < n := by omega
        have hk1 : (0 : Int) < k := by omega
        obtain ⟨p, hx, -, -, ca⟩ := HP.out.at_ cap i (by omega)
        have hz2' : (((f i : Nat) : Int) == 0) = false := by
          have := hst.resolve_left (by omega)
          rw [show k - 1 = i by omega] at this
          simpa using this
        clear h0 hst
        go_wp2_with (at_builtin; refine wpList_append_own _ rfl _ _ 23 rfl w.heap.size 32 i0 (.int .u32 0) 1 4 Try.underlying23 hi hz0 hz1 hz2 rfl (by decide) _ 0 [] rfl (World.ownsRow_made (base := w.heap.size) (e := 32) (size := 1) w #[] 0 (by simp) (by decide) (by simp)) q k cap (pl f k) rfl (by rw [pl_len, Nat.mul_one]) ?c1 ?c2 ?c3 ?c4 ?c5 ?_)
        case c1 => exact rd_add (HE.out.2.below ((Below.refl _ _).alloc (Nat.le_refl _) _)) q rfl
        case c2 => exact one_pl f k
        case c3 => unfold maxLen; omega
        case c4 => omega
        intro v' w1 hown' hgrow _
        have HF := Lib.hid (mk_own (w := w) hown' (Nat.le_refl _) (((Below.refl _ _).alloc (Nat.le_refl _) _).grown hgrow (by simp) (fun j hj => by cases hj; exact Nat.le_refl _)))
        clear hown' hgrow
        go_wp2
        go_ret
        rw [HE.out.1]
        exact HF.out
set_option maxRecDepth 100000 in
set_option maxHeartbeats 1000000 in
theorem refplain_none (f : Nat → Nat) (w : World) : Calls Try.prog 25 #[.slice none 0 0] w (MkN 0 f w) := by
  obtain ⟨i0, hi, hz0, hz1, hz2⟩ := info_parts info32
  have hs : ∀ w, (Instr.slice 23 (.slice none 0 0) none (some (.int .i64 0)) none).run Try.prog w = .ok (.slice none 0 0) w := fun w => slice_nat none 0 0 0 (by omega) w
  go_enter Try.func25, Try.ntmps25
  go_wp2
  go_loop [3] (fun iv => iv = .int .i64 0) (fun iv => (intOf iv).toNat)
  case atStart => rfl
  case round =>
    obtain rfl := hrel
    go_wp2_with (at_builtin; refine wpList_append_own_none rfl _ _ 23 rfl w.heap.size 32 i0 1 Try.underlying23 hi _ 0 [] rfl (World.ownsRow_made (base := w.heap.size) (e := 32) (size := 1) w #[] 0 (by simp) (by decide) (by simp)) rfl ?_)
    go_wp2
    go_ret
    exact ⟨_, 0, rfl, Nat.le_refl _, .inl rfl, (fun q hq => by cases hq; exact ⟨Nat.le_refl _, by simp⟩), by go_grown⟩
-- WHAT THE REFERENCE's Plain COMES TO.
theorem refplain_any {w : World} {v : Value} {n : Nat} {f : Nat → Nat} (h : ArgN w v n f) (hn : (n : Int) ≤ 35184372088832) (hf : ∀ j, j < n → f j < 4294967296) : Calls Try.prog 25 #[v] w (MkP (vb 4294967296 f n) w) := by
  have key : ∀ {n : Nat}, (n : Int) ≤ 35184372088832 → (∀ j, j < n → f j < 4294967296) → ∀ {e : Ending} {w' : World}, MkN (tn f n) f w e w' → MkP (vb 4294967296 f n) w e w' := by
    rintro n hn hf e w' ⟨a, c, rfl, h1, h2, h3, h4⟩
    have hl := tn_le f n
    exact ⟨_, rfl, ⟨a, _, c, f, rfl, ⟨h1, h2, fun q hq => (h3 q hq).2, fun j hj => hf j (by omega), by omega⟩, vb_tn _ _ _, tn_top f n⟩, h4⟩
  obtain ⟨a, cap, rfl, hc, hn0, hr⟩ := h
  cases a with
  | none =>
    have h0 := hn0 rfl
    subst h0
    obtain rfl : n = 0 := by omega
    exact (refplain_none f w).mono fun e w' h => key hn hf h
  | some q => exact (refplain_some q n cap f hn hc w hr).mono fun e w' h => key hn hf h
end Go.Proofs.Ytgegkffigjogcaa

/- What nat.Cmp comes to, called with any two numbers. -/
import Derived.Test.YtgegkffigjogcaaNCompare
namespace Go.Proofs.Ytgegkffigjogcaa
open Go.RowKit

theorem nless_top {P : Nat} {f g : Nat → Nat} {n i : Nat} (hf : ∀ j, j < n → f j < P) (hi : i < n) (he : ∀ j, i < j → j < n → f j = g j) (h : f i < g i) : vb P f n < vb P g n := by
  obtain ⟨k, rfl⟩ : ∃ k, n = (i + 1) + k := ⟨n - (i + 1), by omega⟩
  rw [vb_split P f (i + 1) k, vb_split P g (i + 1) k, vb_congr (f := fun j => f (i + 1 + j)) (g := fun j => g (i + 1 + j)) (fun j hj => he (i + 1 + j) (by omega) (by omega))]
  have h1 := vb_lt (P := P) (f := f) (n := i) (fun j hj => hf j (by omega))
  have h2 := Nat.mul_le_mul_left (P ^ i) h
  simp only [vb]
  rw [Nat.succ_eq_add_one, Nat.mul_add, Nat.mul_one] at h2
  omega
theorem sgn_top {f g : Nat → Nat} {n i : Nat} (hf : ∀ j, j < n → f j < 4294967296) (hg : ∀ j, j < n → g j < 4294967296) (hi : i < n) (he : ∀ j, i < j → j < n → f j = g j) (h : f i ≠ g i) : sgn (f i) (g i) = sgn (vb 4294967296 f n) (vb 4294967296 g n) := by
  unfold sgn
  rcases Nat.lt_or_gt_of_ne h with h1 | h1
  · rw [if_pos h1, if_pos (nless_top hf hi he h1)]
  · have h2 := nless_top hg hi (fun j a b => (he j a b).symm) h1
    rw [if_neg (by omega), if_pos h1, if_neg (by omega), if_pos h2]
theorem sgn_len {f g : Nat → Nat} {n m : Nat} (hf : ∀ j, j < n → f j < 4294967296) (hg : ∀ j, j < m → g j < 4294967296) (tf : n = 0 ∨ f (n - 1) ≠ 0) (tg : m = 0 ∨ g (m - 1) ≠ 0) (h : n ≠ m) : sgn n m = sgn (vb 4294967296 f n) (vb 4294967296 g m) := by
  have key : ∀ {f g : Nat → Nat} {n m : Nat}, (∀ j, j < n → f j < 4294967296) → (∀ j, j < m → g j < 4294967296) → (m = 0 ∨ g (m - 1) ≠ 0) → n < m → vb 4294967296 f n < vb 4294967296 g m := by
    intro f g n m hf hg tg h
    have h1 := vb_lt hf
    have h2 := (not_congr (plain_len (P := 4294967296) (m := n) (by omega) hg tg)).2 (by omega)
    omega
  unfold sgn
  rcases Nat.lt_or_gt_of_ne h with h1 | h1
  · rw [if_pos h1, if_pos (key hf hg tg h1)]
  · have h2 := key hg hf tf h1
    rw [if_neg (by omega), if_pos h1, if_neg (by omega), if_pos h2]
set_option maxRecDepth 100000 in
set_option maxHeartbeats 1000000 in
-- WHAT nat.Cmp COMES TO.
theorem cmp_nv {a b : Option Addr} {n m ca cb : Nat} {f g : Nat → Nat} {w : World} (ha : NvA w a n ca f) (hb : NvA w b m cb g) : Calls Try.prog 30 #[.slice a n ca, .slice b m cb] w fun e w' => e = .returned (.int .i64 (sgn (vb 4294967296 f n) (vb 4294967296 g m))) ∧ ∃ d, w' = w.drewN d := by
  have H1 := Lib.hid (trim_nv ha)
  have H2 := Lib.hid (trim_nv hb)
  have ta := tn_top f n
  have tb := tn_top g m
  have ha' := ha.trim
  have hb' := hb.trim
  have va := vb_tn 4294967296 f n
  have vb' := vb_tn 4294967296 g m
  rw [← va, ← vb']
  clear va vb' ha hb
  obtain ⟨x, hx⟩ : ∃ x, tn f n = x := ⟨_, rfl⟩
  obtain ⟨y, hy⟩ : ∃ y, tn g m = y := ⟨_, rfl⟩
  rw [hx] at H1 ta ha' ⊢
  rw [hy] at H2 tb hb' ⊢
  clear hx hy
  have hx0 : (0 : Int) ≤ x := by omega
  have hx1 : (x : Int) ≤ 35184372088832 := ha'.few
  by_cases h : x = y
  · subst h
    have HA := Lib.hid ha'; clear ha' ta
    have HB := Lib.hid hb'; clear hb' tb
    have e0 : ((x : Int) != x) = false := by simp
    go_enter Try.func30, Try.ntmps30
    go_wp2_with fail
    refine H1.out.mono ?_
    rintro e w' ⟨rfl, rfl⟩
    go_wp2_with fail
    refine H2.out.mono ?_
    rintro e w' ⟨rfl, rfl⟩
    go_wp2
    go_loopw [5] (fun iv wr => ∃ (z : Int) (c : Nat), c ≤ x ∧ z = (c : Int) - 1 ∧ iv = .int .i64 z ∧ (∃ d, wr = w.drewN d) ∧ Hid (∀ j, c ≤ j → j < x → f j = g j)) (fun iv _ => (intOf iv + 1).toNat)
    case atStart => exact ⟨(x : Int) - 1, x, Nat.le_refl _, rfl, rfl, ⟨0, rfl⟩, Lib.hid (fun j h1 h2 => by omega)⟩
    case round =>
      obtain ⟨z, c, hcc, hz, rfl, ⟨d, rfl⟩, H⟩ := hrel
      cases c with
      | zero =>
        have hz1 : z < 0 := by omega
        have hzf : decide (0 ≤ z) = false := by rw [decide_eq_false_iff_not]; omega
        have HS : Hid (sgn (vb 4294967296 f x) (vb 4294967296 g x) = 0) := Lib.hid (by
          rw [vb_congr (fun j hj => H.out j (Nat.zero_le _) hj)]
          unfold sgn
          rw [if_neg (by omega), if_neg (by omega)])
        clear H hz
        go_wp2
        go_ret
        exact ⟨by rw [HS.out]; rfl, d, rfl⟩
      | succ i =>
        obtain rfl : z = (i : Int) := by omega
        have hi0 : (0 : Int) ≤ i := by omega
        have hin : (i : Int) < x := by omega
        obtain ⟨p, hix, -, -, cp⟩ := HA.out.rd.at_ ca i (by omega)
        obtain ⟨q, hiq, -, -, cq⟩ := HB.out.rd.at_ cb i (by omega)
        by_cases he : f i = g i
        · have hne : (((f i : Nat) : Int) != ((g i : Nat) : Int)) = false := by simp [he]
          have HN : Hid (∀ j, i ≤ j → j < x → f j = g j) := Lib.hid (fun j h1 h2 => by
            by_cases e : j = i
            · rw [e]; exact he
            · exact H.out j (by omega) h2)
          clear H he hz
          go_wp2_with fail
          go_region
          go_wp2
          go_roundw
          case rel => exact ⟨(i : Int) - 1, i, by omega, rfl, rfl, ⟨d + 1, rfl⟩, HN⟩
          case measure => first | (simp [intOf]; done) | (simp [intOf]; omega)
        · have hne : (((f i : Nat) : Int) != ((g i : Nat) : Int)) = true := by simp; omega
          have HS := Lib.hid (sgn_top HA.out.lt HB.out.lt (show i < x by omega) (fun j h1 h2 => H.out j (by omega) h2) he)
          have HC := Lib.hid (fun w => compare_u32 (f i) (g i) w)
          clear H he hz
          go_wp2_with fail
          go_region
          go_wp2_with fail
          go_region_with (go_at_call 57; (with_reducible refine (HC.out _).mono ?_); rintro e w' ⟨rfl, rfl⟩)
          all_goals
            go_wp2
            go_ret
            exact ⟨by rw [← HS.out]; rfl, d + 2, rfl⟩
  · have hne : ((x : Int) != y) = true := by simp; omega
    have HS := Lib.hid (sgn_len ha'.lt hb'.lt ta tb h)
    have HC := Lib.hid (fun w => compare_int x y w)
    clear ta tb ha' hb' h
    go_enter Try.func30, Try.ntmps30
    go_wp2_with fail
    refine H1.out.mono ?_
    rintro e w' ⟨rfl, rfl⟩
    go_wp2_with fail
    refine H2.out.mono ?_
    rintro e w' ⟨rfl, rfl⟩
    go_wp2_with fail
    refine (HC.out _).mono ?_
    rintro e w' ⟨rfl, rfl⟩
    go_wp2
    go_ret
    exact ⟨by rw [← HS.out]; rfl, 0, rfl⟩
end Go.Proofs.Ytgegkffigjogcaa

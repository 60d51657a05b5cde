/- Bytes as nibbles: what Of comes to, the program's and the reference's. -/
import Derived.Test.YtaopmcpihdcaiaaBApp
namespace Go.Proofs.Ytaopmcpihdcaiaa
open Go.RowKit

/-- The nibbles of bytes. -/
def hv (f : Nat → Nat) (j : Nat) : Nat := if j % 2 = 0 then f (j / 2) / 16 else f (j / 2) % 16
theorem hv_lt {f : Nat → Nat} (hf : ∀ j, f j < 256) (j : Nat) : hv f j < 16 := by
  have := hf (j / 2)
  unfold hv
  split <;> omega
theorem own8_congr {base n : Nat} {f g : Nat → Nat} {v : Value} {w : World} (h : Own8 base f n v w) (e : ∀ j, j < n → f j = g j) : Own8 base g n v w := by
  unfold Own8 at h ⊢
  rw [← p8_congr e]
  exact h
theorem hv_two (f : Nat → Nat) (k j : Nat) (hj : j < 2 * k + [f k / 16, f k % 16].length) : putL (hv f) (2 * k) [f k / 16, f k % 16] j = hv f j := by
  simp only [List.length_cons, List.length_nil] at hj
  unfold putL
  by_cases h : j < 2 * k
  · rw [if_pos h]
  · rw [if_neg h]
    rcases (show j = 2 * k ∨ j = 2 * k + 1 by omega) with rfl | rfl
    · have e : 2 * k / 2 = k := by omega
      have e2 : 2 * k % 2 = 0 := by omega
      simp [hv, e]
    · have e : (2 * k + 1) / 2 = k := by omega
      have e2 : (2 * k + 1) % 2 = 1 := by omega
      have e3 : 2 * k + 1 - 2 * k = 1 := by omega
      simp [hv, e, e2, e3]
theorem and15 (x : Nat) (h : x < 256) : bits .and .u8 (x : Int) 15 = ((x % 16 : Nat) : Int) := by
  have e := u8_and15 (x := (x : Int)) (by omega) (by omega)
  rw [e]
  omega
set_option maxRecDepth 100000 in
set_option maxHeartbeats 2000000 in
-- WHAT Of COMES TO.
theorem of_any {n : Nat} {f : Nat → Nat} {v : Value} {w : World} (hn : n ≤ 4000000) (hf : ∀ j, f j < 256) (hP : ArgB w v n f) : Calls Try.prog 6 #[v] w fun e w' => ∃ v', e = .returned v' ∧ Own8 w.heap.size (hv f) (2 * n) v' w' ∧ (∃ b c, v' = .slice (some ⟨b, 0, none⟩) (2 * n) c) ∧ Below w.heap.size w w' := by
  obtain ⟨i0, hi, hz0, hz1, hz2⟩ := info_partsB info8
  have HF := Lib.hid hf; clear hf
  have HP := Lib.hid hP
  obtain ⟨a, cap, rfl, hc, hn0, hr⟩ := hP
  clear hr hn0 hc
  obtain ⟨m, hm⟩ : ∃ m : Nat, 2 * n = m := ⟨_, rfl⟩
  have hm1 : (2 : Int) * n = (m : Int) := by omega
  have hm2 : IntKind.i64.wrap (m : Int) = (m : Int) := by rw [IntKind.wrap_i64]; omega
  have hm0 : (0 : Int) ≤ m := by omega
  go_enter Try.func6, Try.ntmps6
  go_wp2_with (at_make; refine wpList_make_own _ rfl _ _ 22 rfl w.heap.size 5 i0 (.int .u8 0) 1 Try.underlying22 hi hz0 hz1 .i64 .i64 _ m rfl rfl rfl (by rw [hz2]; omega) (by unfold maxLen; omega) (Nat.le_refl _) ?_; intro w0 hown0 hgrow0)
  have H0 := Lib.hid (show Own8 w.heap.size (hv f) 0 (.slice (some ⟨w.heap.size, 0, none⟩) 0 m) w0 ∧ Below w.heap.size w w0 from ⟨hown0, (Below.refl _ _).grown hgrow0 (by simp) (fun k hk => by cases hk)⟩)
  clear hown0 hgrow0
  go_loopw [3, 12] (fun ov iv wr => ∃ k : Nat, k ≤ n ∧ iv = .int .i64 k ∧ (∃ g q, ov = .slice (some ⟨g, 0, none⟩) (2 * k) q) ∧ Hid (Own8 w.heap.size (hv f) (2 * k) ov wr ∧ Below w.heap.size w wr)) (fun _ iv _ => n - (intOf iv).toNat)
  case atStart => exact ⟨0, by omega, rfl, ⟨_, _, rfl⟩, H0⟩
  case round =>
    obtain ⟨k, hk, rfl, ⟨g, q, rfl⟩, H⟩ := hrel
    clear H0
    have hbs : w.heap.size ≤ wr.heap.size := H.out.2.size
    have hk0 : (0 : Int) ≤ k := by omega
    by_cases hlt : k < n
    · have hlt' : (k : Int) < n := by omega
      have HPr := HP.out.below (H.out.2.mono (Nat.le_refl _))
      obtain ⟨a2, cap2, e, -, -, hr⟩ := HPr
      obtain ⟨p, hix, hpl, hpc⟩ := hr.at_ cap2 k hlt
      injection e with e1 e2 e3
      subst e1 e3
      obtain ⟨x, hx⟩ : ∃ x, f k = x := ⟨_, rfl⟩
      have hxl : x < 256 := by rw [← hx]; exact HF.out k
      rw [hx] at hpc
      obtain ⟨v', w', hrun, hown, hs, hb⟩ := app_own H.out.1 hbs [x / 16, x % 16] (by simp; omega) (by simp)
      have HQ := Lib.hid (show Own8 w.heap.size (hv f) (2 * (k + 1)) v' w' ∧ Below w.heap.size w w' from by
        refine ⟨own8_congr hown fun j hj => ?_, H.out.2.trans (hb.mono (Nat.le_refl _))⟩
        have e := hv_two f k j (by simp; omega)
        rw [hx] at e
        exact e)
      have HR := Lib.hid hrun
      have hsh : (x : Int) / 2 ^ 4 = ((x / 16 : Nat) : Int) := by omega
      have hw1 : IntKind.u8.wrap ((x / 16 : Nat) : Int) = ((x / 16 : Nat) : Int) := by rw [IntKind.wrap_u8]; omega
      have ha := and15 x hxl
      obtain ⟨g2, q2, rfl⟩ := hs
      clear hrun hown hb hx hr
      go_wp2_with (at_builtin; refine Go.Lib.wpList_append_run _ rfl _ _ 22 22 rfl _ _ rfl rfl _ _ HR.out ?_)
      go_roundw
      case rel => exact ⟨k + 1, by omega, by go_num, ⟨_, _, rfl⟩, HQ⟩
      case measure => simp [intOf]; omega
    · obtain rfl : k = n := by omega
      have hlt' : ¬ (k : Int) < k := by omega
      go_wp2_with fail
      go_ret
      subst hm
      exact ⟨_, rfl, H.out.1, ⟨_, _, rfl⟩, H.out.2⟩
set_option maxRecDepth 100000 in
set_option maxHeartbeats 2000000 in
-- WHAT THE REFERENCE's Of COMES TO.
theorem rof_any {n : Nat} {f : Nat → Nat} {v : Value} {w : World} (hn : n ≤ 4000000) (hf : ∀ j, f j < 256) (hP : ArgB w v n f) : Calls Try.prog 9 #[v] w fun e w' => ∃ v', e = .returned v' ∧ Own8 w.heap.size (hv f) (2 * n) v' w' ∧ (∃ b c, v' = .slice (some ⟨b, 0, none⟩) (2 * n) c) ∧ Below w.heap.size w w' := by
  have HF := Lib.hid hf; clear hf
  have HP := Lib.hid hP
  obtain ⟨a, cap, rfl, hc, hn0, hr⟩ := hP
  clear hr hn0 hc
  obtain ⟨m, hm⟩ : ∃ m : Nat, 2 * n = m := ⟨_, rfl⟩
  have hm1 : (2 : Int) * n = (m : Int) := by omega
  have hm2 : IntKind.i64.wrap (m : Int) = (m : Int) := by rw [IntKind.wrap_i64]; omega
  have hm0 : (0 : Int) ≤ m := by omega
  have H0 := Lib.hid (show Own8 w.heap.size (hv f) 0 (.slice (some ⟨w.heap.size, 0, none⟩) 0 0) (w.alloc (.cells #[] 5)) ∧ Below w.heap.size w (w.alloc (.cells #[] 5)) from
    ⟨World.ownsRow_made (base := w.heap.size) (e := 5) (size := 1) w #[] 0 (by simp) (by decide) (by simp), by go_grown⟩)
  go_enter Try.func9, Try.ntmps9
  go_wp2_with fail
  go_loopw [3, 4] (fun ov iv wr => ∃ k : Nat, k ≤ m ∧ iv = .int .i64 k ∧ (∃ g q, ov = .slice (some ⟨g, 0, none⟩) k q) ∧ Hid (Own8 w.heap.size (hv f) k ov wr ∧ Below w.heap.size w wr)) (fun _ iv _ => m - (intOf iv).toNat)
  case atStart => exact ⟨0, by omega, rfl, ⟨_, _, rfl⟩, H0⟩
  case round =>
    obtain ⟨k, hk, rfl, ⟨g, q, rfl⟩, H⟩ := hrel
    clear H0
    have hbs : w.heap.size ≤ wr.heap.size := H.out.2.size
    have hk0 : (0 : Int) ≤ k := by omega
    by_cases hlt : k < m
    · have hlt' : (k : Int) < m := by omega
      obtain ⟨d, hd⟩ : ∃ d : Nat, k / 2 = d := ⟨_, rfl⟩
      have hd0 : (k : Int) / 2 = (d : Int) := by omega
      have hdn : (0 : Int) ≤ d := by omega
      have hd1 : (d : Int) < n := by omega
      have HPr := HP.out.below (H.out.2.mono (Nat.le_refl _))
      obtain ⟨a2, cap2, e, -, -, hr⟩ := HPr
      obtain ⟨p, hix, hpl, hpc⟩ := hr.at_ cap2 d (by omega)
      injection e with e1 e2 e3
      subst e1 e3
      obtain ⟨x, hx⟩ : ∃ x, f d = x := ⟨_, rfl⟩
      have hxl : x < 256 := by rw [← hx]; exact HF.out d
      rw [hx] at hpc
      obtain ⟨y, hy⟩ : ∃ y, x / 16 = y := ⟨_, rfl⟩
      obtain ⟨z, hz⟩ : ∃ z, x % 16 = z := ⟨_, rfl⟩
      have hx1 : (x : Int).tdiv 16 = (y : Int) := by rw [Int.tdiv_eq_ediv_of_nonneg (by omega)]; omega
      have hx2 : (x : Int) % 16 = (z : Int) := by omega
      have hw1 : IntKind.u8.wrap (y : Int) = (y : Int) := by rw [IntKind.wrap_u8]; omega
      have hw2 : IntKind.u8.wrap (z : Int) = (z : Int) := by rw [IntKind.wrap_u8]; omega
      by_cases hev : k % 2 = 0
      · have hev' : ((k : Int) % 2 == 0) = true := by simp; omega
        obtain ⟨v', w', hrun, hown, hs, hb⟩ := app_own H.out.1 hbs [y] (by simp; omega) (by simp)
        have HQ := Lib.hid (show Own8 w.heap.size (hv f) (k + 1) v' w' ∧ Below w.heap.size w w' from by
          refine ⟨own8_congr hown fun j hj => ?_, H.out.2.trans (hb.mono (Nat.le_refl _))⟩
          unfold putL
          by_cases h : j < k
          · rw [if_pos h]
          · obtain rfl : j = k := by omega
            rw [if_neg h]
            simp [hv, hev, hd, hx, hy])
        have HR := Lib.hid hrun
        obtain ⟨g2, q2, rfl⟩ := hs
        clear hrun hown hb hx hr hy hz
        go_wp2_with (at_builtin; refine Go.Lib.wpList_append_run _ rfl _ _ 22 22 rfl _ _ rfl rfl _ _ HR.out ?_)
        go_roundw
        case rel => exact ⟨k + 1, by omega, by go_num, ⟨_, _, rfl⟩, HQ⟩
        case measure => simp [intOf]; omega
      · have hev' : ((k : Int) % 2 == 0) = false := by simp; omega
        obtain ⟨v', w', hrun, hown, hs, hb⟩ := app_own H.out.1 hbs [z] (by simp; omega) (by simp)
        have HQ := Lib.hid (show Own8 w.heap.size (hv f) (k + 1) v' w' ∧ Below w.heap.size w w' from by
          refine ⟨own8_congr hown fun j hj => ?_, H.out.2.trans (hb.mono (Nat.le_refl _))⟩
          unfold putL
          by_cases h : j < k
          · rw [if_pos h]
          · obtain rfl : j = k := by omega
            rw [if_neg h]
            simp [hv, hev, hd, hx, hz])
        have HR := Lib.hid hrun
        obtain ⟨g2, q2, rfl⟩ := hs
        clear hrun hown hb hx hr hy hz
        go_wp2_with (at_builtin; refine Go.Lib.wpList_append_run _ rfl _ _ 22 22 rfl _ _ rfl rfl _ _ HR.out ?_)
        go_roundw
        case rel => exact ⟨k + 1, by omega, by go_num, ⟨_, _, rfl⟩, HQ⟩
        case measure => simp [intOf]; omega
    · obtain rfl : k = m := by omega
      have hlt' : ¬ (k : Int) < k := by omega
      go_wp2_with fail
      go_ret
      subst hm
      exact ⟨_, rfl, H.out.1, ⟨_, _, rfl⟩, H.out.2⟩
end Go.Proofs.Ytaopmcpihdcaiaa

/- What (*Field).Add, Sub and Neg come to. (With it, merged: PMods · PAdd · AddsAny · BitsW · Byte · Sext · Exp · Pick · ShRef · SarLen · ShiftsAny · FWd · FOf · FAdd.) -/
import Derived.Test.YtfgefifplmhopaaM5
import Derived.Test.YtfgefifplmhopaaM3
import Derived.Test.YtfgefifplmhopaaM4
import Derived.Test.YtfgefifplmhopaaM2
import Derived.Test.YtfgefifplmhopaaM1
namespace Go.Proofs.Ytfgefifplmhopaa
open Go.RowKit

set_option maxRecDepth 100000 in
set_option maxHeartbeats 1000000 in
theorem widen_one (a0 a1 a2 a3 c b : Nat) (w : World) (hb : b < w.heap.size) (hc : w.cell? ⟨b, 0, none⟩ = some (.int .u64 c)) :
    Calls Try.prog 66 #[.agg #[.int .u64 a0, .int .u64 a1, .int .u64 a2, .int .u64 a3], .slice (some ⟨b, 0, none⟩) 1 1] w fun e w' =>
      e = .returned (.agg #[.int .u64 a0, .int .u64 a1, .int .u64 a2, .int .u64 a3, .int .u64 c, .int .u64 0, .int .u64 0, .int .u64 0]) ∧ Below w.heap.size w w' := by
  have hcp := copy4 ((((w.alloc (.cells #[.int .u64 a0, .int .u64 a1, .int .u64 a2, .int .u64 a3] 24)).alloc (.cells #[.int .u64 0, .int .u64 0, .int .u64 0, .int .u64 0, .int .u64 0, .int .u64 0, .int .u64 0, .int .u64 0] 75)).alloc (.cells #[.int .u64 0, .int .u64 0, .int .u64 0, .int .u64 0, .int .u64 0, .int .u64 0, .int .u64 0, .int .u64 0] 75)).drew) (w.heap.size + 1 + 1) w.heap.size a0 a1 a2 a3
    (by go_cell) (by go_cell) (by go_cell) (by go_cell) (by go_simp) (by go_simp) (by go_simp) (by go_simp) (by go_cell) (by go_cell) (by go_cell) (by go_cell)
  have hcn := run_copy_cells (P := Try.prog) ((((w.alloc (.cells #[.int .u64 a0, .int .u64 a1, .int .u64 a2, .int .u64 a3] 24)).alloc (.cells #[.int .u64 0, .int .u64 0, .int .u64 0, .int .u64 0, .int .u64 0, .int .u64 0, .int .u64 0, .int .u64 0] 75)).alloc (.cells #[.int .u64 a0, .int .u64 a1, .int .u64 a2, .int .u64 a3, .int .u64 0, .int .u64 0, .int .u64 0, .int .u64 0] 75)).drew) 50 50 3 22 (w.heap.size + 1 + 1) 4 4 4 ⟨b, 0, none⟩ 1 1 [.int .u64 c] Try.underlying50 (by kernel_rfl) rfl
    (fun j v hj => by
      rcases j with _ | j
      · cases hj; exact ((show Below w.heap.size w ((((w.alloc (.cells #[.int .u64 a0, .int .u64 a1, .int .u64 a2, .int .u64 a3] 24)).alloc (.cells #[.int .u64 0, .int .u64 0, .int .u64 0, .int .u64 0, .int .u64 0, .int .u64 0, .int .u64 0, .int .u64 0] 75)).alloc (.cells #[.int .u64 a0, .int .u64 a1, .int .u64 a2, .int .u64 a3, .int .u64 0, .int .u64 0, .int .u64 0, .int .u64 0] 75)).drew) by go_grown).cell (p := ⟨b, 0, none⟩) hb).trans hc
      · simp at hj)
    (fun j hj => by
      rcases j with _ | j
      · exact (congrArg Option.isSome (show World.cell? ((((w.alloc (.cells #[.int .u64 a0, .int .u64 a1, .int .u64 a2, .int .u64 a3] 24)).alloc (.cells #[.int .u64 0, .int .u64 0, .int .u64 0, .int .u64 0, .int .u64 0, .int .u64 0, .int .u64 0, .int .u64 0] 75)).alloc (.cells #[.int .u64 a0, .int .u64 a1, .int .u64 a2, .int .u64 a3, .int .u64 0, .int .u64 0, .int .u64 0, .int .u64 0] 75)).drew) ⟨w.heap.size + 1 + 1, 4, none⟩ = some (.int .u64 0) by go_cell)).trans rfl
      · simp at hj)
    (fun j hj => by
      rcases j with _ | j
      · show World.frozen? ((((w.alloc (.cells #[.int .u64 a0, .int .u64 a1, .int .u64 a2, .int .u64 a3] 24)).alloc (.cells #[.int .u64 0, .int .u64 0, .int .u64 0, .int .u64 0, .int .u64 0, .int .u64 0, .int .u64 0, .int .u64 0] 75)).alloc (.cells #[.int .u64 a0, .int .u64 a1, .int .u64 a2, .int .u64 a3, .int .u64 0, .int .u64 0, .int .u64 0, .int .u64 0] 75)).drew) ⟨w.heap.size + 1 + 1, 4, none⟩ = false; go_cell
      · simp at hj)
    (fun v hv => by simp at hv; rcases hv with rfl; rfl)
  simp only [World.setCells] at hcn
  go_enter Try.func66, Try.ntmps66
  go_wp2
  go_region
  go_wp2
  go_returns
  refine ⟨?_, by go_grown⟩
  rfl
theorem widen_more (x c b : Nat) (hc : c < 18446744073709551616) (w : World) (hb : b < w.heap.size) (h : w.cell? ⟨b, 0, none⟩ = some (.int .u64 c)) : Calls Try.prog 66 #[wv x, .slice (some ⟨b, 0, none⟩) 1 1] w fun e w' => e = .returned (dv (x % 115792089237316195423570985008687907853269984665640564039457584007913129639936 + 115792089237316195423570985008687907853269984665640564039457584007913129639936 * c)) ∧ Below w.heap.size w w' := by
  obtain ⟨a0, a1, a2, a3, u0, u1, u2, u3, ea, na⟩ := wv_parts x
  have h := widen_one a0 a1 a2 a3 c b w hb h
  rw [ea, ← na]
  have hn : dv (n4 a0 a1 a2 a3 + 115792089237316195423570985008687907853269984665640564039457584007913129639936 * c) = .agg #[.int .u64 a0, .int .u64 a1, .int .u64 a2, .int .u64 a3, .int .u64 c, .int .u64 0, .int .u64 0, .int .u64 0] := by
    have := dv_n8 (a5 := 0) (a6 := 0) (a7 := 0) u0 u1 u2 u3 hc (by omega) (by omega) (by omega)
    rw [show n8 a0 a1 a2 a3 c 0 0 0 = n4 a0 a1 a2 a3 + 115792089237316195423570985008687907853269984665640564039457584007913129639936 * c by unfold n8 n4; omega] at this
    exact this
  rw [hn]
  exact h
theorem CT.high {w wx : World} {x y z : Nat} (h : CT w x y z wx) : w.heap.size + 1 + 1 + 1 + 1 ≤ wx.heap.size := (Array.getElem?_eq_some_iff.1 h.r3).1
theorem CT.rowed {w wx : World} {x y z g : Nat} {cs : Array Value} (h : CT w x y z wx) (hg : w.heap.size + 1 + 1 + 1 + 1 ≤ g) : CT w x y z (wx.setRow g cs) :=
  ⟨below_setRow h.old (by omega) _, (setRow_other _ _ _ _ (by omega)).trans h.r0, (setRow_other _ _ _ _ (by omega)).trans h.r1, (setRow_other _ _ _ _ (by omega)).trans h.r2, (setRow_other _ _ _ _ (by omega)).trans h.r3⟩
theorem CT.drew {w wx : World} {x y z : Nat} (h : CT w x y z wx) : CT w x y z wx.drew := ⟨h.old.drew, h.r0, h.r1, h.r2, h.r3⟩

theorem mul_small (x y : Nat) : (x % 115792089237316195423570985008687907853269984665640564039457584007913129639936) * (y % 115792089237316195423570985008687907853269984665640564039457584007913129639936) < 13407807929942597099574024998205846127479365820592393377723561443721764030073546976801874298166903427690031858186486050853753882811946569946433649006084096 := by
  have h1 := Nat.mod_lt x (show 115792089237316195423570985008687907853269984665640564039457584007913129639936 > 0 by omega)
  have h2 := Nat.mod_lt y (show 115792089237316195423570985008687907853269984665640564039457584007913129639936 > 0 by omega)
  have := Nat.mul_lt_mul'' h1 h2
  rwa [show 115792089237316195423570985008687907853269984665640564039457584007913129639936 * 115792089237316195423570985008687907853269984665640564039457584007913129639936 = 13407807929942597099574024998205846127479365820592393377723561443721764030073546976801874298166903427690031858186486050853753882811946569946433649006084096 by rfl] at this

set_option maxRecDepth 100000 in
set_option maxHeartbeats 4000000 in
-- WHAT word.MulMod COMES TO.
theorem mulmod_any (x y z : Nat) (w : World) : Calls Try.prog 61 #[wv x, wv y, wv z] w fun e w' => e = .returned (wv (remV ((x % 115792089237316195423570985008687907853269984665640564039457584007913129639936) * (y % 115792089237316195423570985008687907853269984665640564039457584007913129639936)) z)) ∧ Below w.heap.size w w' := by
  rw [wv_pw x, wv_pw y, wv_pw z]
  go_enter Try.func61, Try.ntmps61
  go_wp2_with fail
  refine region_tie (CT w x y z) (fun i s wx => match i with | 0 => s 10 = wv x | 1 => s 11 = wv y | 2 => s 12 = dv ((x % 115792089237316195423570985008687907853269984665640564039457584007913129639936) * (y % 115792089237316195423570985008687907853269984665640564039457584007913129639936)) | 3 => s 13 = wv z | 4 => s 14 = .tuple #[dv (quoV ((x % 115792089237316195423570985008687907853269984665640564039457584007913129639936) * (y % 115792089237316195423570985008687907853269984665640564039457584007913129639936)) z), wv (remV ((x % 115792089237316195423570985008687907853269984665640564039457584007913129639936) * (y % 115792089237316195423570985008687907853269984665640564039457584007913129639936)) z)] | 5 => s 9 = .tuple #[dv (quoV ((x % 115792089237316195423570985008687907853269984665640564039457584007913129639936) * (y % 115792089237316195423570985008687907853269984665640564039457584007913129639936)) z), wv (remV ((x % 115792089237316195423570985008687907853269984665640564039457584007913129639936) * (y % 115792089237316195423570985008687907853269984665640564039457584007913129639936)) z)] | 6 => s 15 = dv (quoV ((x % 115792089237316195423570985008687907853269984665640564039457584007913129639936) * (y % 115792089237316195423570985008687907853269984665640564039457584007913129639936)) z) | 7 => s 16 = wv (remV ((x % 115792089237316195423570985008687907853269984665640564039457584007913129639936) * (y % 115792089237316195423570985008687907853269984665640564039457584007913129639936)) z) | 8 => ∃ D, s 7 = .pointer (some ⟨D, 0, none⟩) ∧ w.heap.size + 1 + 1 + 1 + 1 ≤ D ∧ ∃ cs, wx.heap[D]? = some (.cells cs 75 (0, 0)) ∧ cs.size = 8 | 9 => ∃ D, s 8 = .pointer (some ⟨D, 0, none⟩) ∧ w.heap.size + 1 + 1 + 1 + 1 ≤ D ∧ ∃ cs, wx.heap[D]? = some (.cells cs 24 (0, 0)) ∧ cs.size = 4 | 10 => ∃ D, s 7 = .pointer (some ⟨D, 0, none⟩) ∧ w.heap.size + 1 + 1 + 1 + 1 ≤ D ∧ wx.heap[D]? = some (.cells (FQ (quoV ((x % 115792089237316195423570985008687907853269984665640564039457584007913129639936) * (y % 115792089237316195423570985008687907853269984665640564039457584007913129639936)) z) (remV ((x % 115792089237316195423570985008687907853269984665640564039457584007913129639936) * (y % 115792089237316195423570985008687907853269984665640564039457584007913129639936)) z) 75) 75 (0, 0)) | 11 => ∃ D, s 8 = .pointer (some ⟨D, 0, none⟩) ∧ w.heap.size + 1 + 1 + 1 + 1 ≤ D ∧ wx.heap[D]? = some (.cells (FQ (quoV ((x % 115792089237316195423570985008687907853269984665640564039457584007913129639936) * (y % 115792089237316195423570985008687907853269984665640564039457584007913129639936)) z) (remV ((x % 115792089237316195423570985008687907853269984665640564039457584007913129639936) * (y % 115792089237316195423570985008687907853269984665640564039457584007913129639936)) z) 24) 24 (0, 0)) | _ => True) (RT (w.heap.size + 1 + 1 + 1 + 1) (FQ (quoV ((x % 115792089237316195423570985008687907853269984665640564039457584007913129639936) * (y % 115792089237316195423570985008687907853269984665640564039457584007913129639936)) z) (remV ((x % 115792089237316195423570985008687907853269984665640564039457584007913129639936) * (y % 115792089237316195423570985008687907853269984665640564039457584007913129639936)) z))) (fun i => match i with | 0 => [10] | 1 => [11] | 2 => [12] | 3 => [13] | 4 => [14] | 5 => [9] | 6 => [15] | 7 => [16] | 8 => [7] | 9 => [8] | 10 => [7] | 11 => [8] | _ => []) (fun i => i) (by kernel_rfl) (by kernel_rfl) ⟨Below.drew (by go_grown), (heap4 _ _ _ _ _).1, (heap4 _ _ _ _ _).2.1, (heap4 _ _ _ _ _).2.2.1, (heap4 _ _ _ _ _).2.2.2⟩ ?_ ?_ ?_ ?_
  · intro i s s' wx he hp
    match i, he, hp with
    | 0, he, hp => exact (he 10 (by simp)).symm.trans hp
    | 1, he, hp => exact (he 11 (by simp)).symm.trans hp
    | 2, he, hp => exact (he 12 (by simp)).symm.trans hp
    | 3, he, hp => exact (he 13 (by simp)).symm.trans hp
    | 4, he, hp => exact (he 14 (by simp)).symm.trans hp
    | 5, he, hp => exact (he 9 (by simp)).symm.trans hp
    | 6, he, hp => exact (he 15 (by simp)).symm.trans hp
    | 7, he, hp => exact (he 16 (by simp)).symm.trans hp
    | 8, he, hp => obtain ⟨D, h1, h2⟩ := hp; exact ⟨D, (he 7 (by simp)).symm.trans h1, h2⟩
    | 9, he, hp => obtain ⟨D, h1, h2⟩ := hp; exact ⟨D, (he 8 (by simp)).symm.trans h1, h2⟩
    | 10, he, hp => obtain ⟨D, h1, h2⟩ := hp; exact ⟨D, (he 7 (by simp)).symm.trans h1, h2⟩
    | 11, he, hp => obtain ⟨D, h1, h2⟩ := hp; exact ⟨D, (he 8 (by simp)).symm.trans h1, h2⟩
    | _ + 12, _, _ => trivial
  · intro i s wa wb hR hp
    match i, hp with
    | 0, hp => exact hp
    | 1, hp => exact hp
    | 2, hp => exact hp
    | 3, hp => exact hp
    | 4, hp => exact hp
    | 5, hp => exact hp
    | 6, hp => exact hp
    | 7, hp => exact hp
    | 8, hp => obtain ⟨D, h1, h2, cs, h3, h4⟩ := hp; obtain ⟨cs', h5, h6⟩ := hR.shape _ _ _ _ h3; exact ⟨D, h1, h2, cs', h5, h6.trans h4⟩
    | 9, hp => obtain ⟨D, h1, h2, cs, h3, h4⟩ := hp; obtain ⟨cs', h5, h6⟩ := hR.shape _ _ _ _ h3; exact ⟨D, h1, h2, cs', h5, h6.trans h4⟩
    | 10, hp => obtain ⟨D, h1, h2, h3⟩ := hp; exact ⟨D, h1, h2, hR.keep _ _ _ h3⟩
    | 11, hp => obtain ⟨D, h1, h2, h3⟩ := hp; exact ⟨D, h1, h2, hR.keep _ _ _ h3⟩
    | _ + 12, _ => trivial
  · refine ⟨?_, ?_, ?_, ?_, ?_, ?_, ?_, ?_, ?_, ?_, ?_, ?_, trivial⟩
    · intro a wx hC hsz hK
      have h0 : a.tmps.getD 3 undef = .pointer (some ⟨w.heap.size, 0, none⟩) := hK.1 3 (by kernel_rfl)
      exact tt_load 24 (.tmp 3) (.pointer (some ⟨w.heap.size, 0, none⟩)) (wv x) rfl (by kernel_rfl) h0 (load_pw hC.r0) hC (slots_put _ _ _ (by rw [hsz]; exact of_decide_eq_true (by kernel_rfl))) (RT.refl _ _ _)
    · intro a wx hC hsz hK
      have h0 : a.tmps.getD 4 undef = .pointer (some ⟨w.heap.size + 1, 0, none⟩) := hK.1 4 (by kernel_rfl)
      exact tt_load 24 (.tmp 4) (.pointer (some ⟨w.heap.size + 1, 0, none⟩)) (wv y) rfl (by kernel_rfl) h0 (load_pw hC.r1) hC (slots_put _ _ _ (by rw [hsz]; exact of_decide_eq_true (by kernel_rfl))) (RT.refl _ _ _)
    · intro a wx hC hsz hK
      have h0 : a.tmps.getD 10 undef = wv x := hK.2 ⟨0, .data⟩ (by simp) rfl _ rfl
      have h1 : a.tmps.getD 11 undef = wv y := hK.2 ⟨1, .data⟩ (by simp) rfl _ rfl
      refine tt_call 74 #[a.tmps.getD 10 undef, a.tmps.getD 11 undef] (by kernel_rfl) (by kernel_rfl) ?_
      rw [h0, h1]
      exact ((fun wx => product_any x y wx) wx).mono fun e w' hh => ⟨_, hh.1, hC.below hh.2, slots_put _ _ _ (by rw [hsz]; exact of_decide_eq_true (by kernel_rfl)), RT.of hC.high hh.2⟩
    · intro a wx hC hsz hK
      have h0 : a.tmps.getD 5 undef = .pointer (some ⟨w.heap.size + 1 + 1, 0, none⟩) := hK.1 5 (by kernel_rfl)
      exact tt_load 24 (.tmp 5) (.pointer (some ⟨w.heap.size + 1 + 1, 0, none⟩)) (wv z) rfl (by kernel_rfl) h0 (load_pw hC.r2) hC (slots_put _ _ _ (by rw [hsz]; exact of_decide_eq_true (by kernel_rfl))) (RT.refl _ _ _)
    · intro a wx hC hsz hK
      have h0 : a.tmps.getD 12 undef = dv ((x % 115792089237316195423570985008687907853269984665640564039457584007913129639936) * (y % 115792089237316195423570985008687907853269984665640564039457584007913129639936)) := hK.2 ⟨2, .data⟩ (by simp) rfl _ rfl
      have h1 : a.tmps.getD 13 undef = wv z := hK.2 ⟨3, .data⟩ (by simp) rfl _ rfl
      refine tt_call 65 #[a.tmps.getD 12 undef, a.tmps.getD 13 undef] (by kernel_rfl) (by kernel_rfl) ?_
      rw [h0, h1]
      exact ((fun wx => divide_all ((x % 115792089237316195423570985008687907853269984665640564039457584007913129639936) * (y % 115792089237316195423570985008687907853269984665640564039457584007913129639936)) z (mul_small x y) wx) wx).mono fun e w' hh => ⟨_, hh.1, hC.below hh.2, slots_put _ _ _ (by rw [hsz]; exact of_decide_eq_true (by kernel_rfl)), RT.of hC.high hh.2⟩
    · intro a wx hC hsz hK
      have h0 : a.tmps.getD 14 undef = .tuple #[dv (quoV ((x % 115792089237316195423570985008687907853269984665640564039457584007913129639936) * (y % 115792089237316195423570985008687907853269984665640564039457584007913129639936)) z), wv (remV ((x % 115792089237316195423570985008687907853269984665640564039457584007913129639936) * (y % 115792089237316195423570985008687907853269984665640564039457584007913129639936)) z)] := hK.2 ⟨4, .data⟩ (by simp) rfl _ rfl
      exact tt_val (.tuple #[dv (quoV ((x % 115792089237316195423570985008687907853269984665640564039457584007913129639936) * (y % 115792089237316195423570985008687907853269984665640564039457584007913129639936)) z), wv (remV ((x % 115792089237316195423570985008687907853269984665640564039457584007913129639936) * (y % 115792089237316195423570985008687907853269984665640564039457584007913129639936)) z)]) (by kernel_rfl) (by rw [← h0]; kernel_rfl) hC (slots_put _ _ _ (by rw [hsz]; exact of_decide_eq_true (by kernel_rfl))) (RT.refl _ _ _)
    · intro a wx hC hsz hK
      have h0 : a.tmps.getD 9 undef = .tuple #[dv (quoV ((x % 115792089237316195423570985008687907853269984665640564039457584007913129639936) * (y % 115792089237316195423570985008687907853269984665640564039457584007913129639936)) z), wv (remV ((x % 115792089237316195423570985008687907853269984665640564039457584007913129639936) * (y % 115792089237316195423570985008687907853269984665640564039457584007913129639936)) z)] := hK.2 ⟨5, .data⟩ (by simp) rfl _ rfl
      refine tt_v (Instr.extract (a.tmps.getD 9 undef) 0) (dv (quoV ((x % 115792089237316195423570985008687907853269984665640564039457584007913129639936) * (y % 115792089237316195423570985008687907853269984665640564039457584007913129639936)) z)) (by kernel_rfl) rfl ?_ hC (slots_put _ _ _ (by rw [hsz]; exact of_decide_eq_true (by kernel_rfl))) (RT.refl _ _ _)
      rw [h0]; kernel_rfl
    · intro a wx hC hsz hK
      have h0 : a.tmps.getD 9 undef = .tuple #[dv (quoV ((x % 115792089237316195423570985008687907853269984665640564039457584007913129639936) * (y % 115792089237316195423570985008687907853269984665640564039457584007913129639936)) z), wv (remV ((x % 115792089237316195423570985008687907853269984665640564039457584007913129639936) * (y % 115792089237316195423570985008687907853269984665640564039457584007913129639936)) z)] := hK.2 ⟨5, .data⟩ (by simp) rfl _ rfl
      refine tt_v (Instr.extract (a.tmps.getD 9 undef) 1) (wv (remV ((x % 115792089237316195423570985008687907853269984665640564039457584007913129639936) * (y % 115792089237316195423570985008687907853269984665640564039457584007913129639936)) z)) (by kernel_rfl) rfl ?_ hC (slots_put _ _ _ (by rw [hsz]; exact of_decide_eq_true (by kernel_rfl))) (RT.refl _ _ _)
      rw [h0]; kernel_rfl
    · intro a wx hC hsz hK
      exact tt_new (.pointer (some ⟨wx.heap.size, 0, none⟩)) (by kernel_rfl) (by kernel_rfl) (hC.below ((Below.refl _ _).alloc (Nat.le_refl _) _)) ⟨_, slots_put _ _ _ (by rw [hsz]; exact of_decide_eq_true (by kernel_rfl)), hC.high, #[.int .u64 0, .int .u64 0, .int .u64 0, .int .u64 0, .int .u64 0, .int .u64 0, .int .u64 0, .int .u64 0], heap_alloc_new _ _, rfl⟩ (RT.of hC.high ((Below.refl _ _).alloc (Nat.le_refl _) _))
    · intro a wx hC hsz hK
      exact tt_new (.pointer (some ⟨wx.heap.size, 0, none⟩)) (by kernel_rfl) (by kernel_rfl) (hC.below ((Below.refl _ _).alloc (Nat.le_refl _) _)) ⟨_, slots_put _ _ _ (by rw [hsz]; exact of_decide_eq_true (by kernel_rfl)), hC.high, #[.int .u64 0, .int .u64 0, .int .u64 0, .int .u64 0], heap_alloc_new _ _, rfl⟩ (RT.of hC.high ((Below.refl _ _).alloc (Nat.le_refl _) _))
    · intro a wx hC hsz hK
      obtain ⟨D, h1, h2, cs, h3, h4⟩ := hK.2 ⟨8, .data⟩ (by simp) rfl _ rfl
      have h0 : a.tmps.getD 15 undef = dv (quoV ((x % 115792089237316195423570985008687907853269984665640564039457584007913129639936) * (y % 115792089237316195423570985008687907853269984665640564039457584007913129639936)) z) := hK.2 ⟨6, .data⟩ (by simp) rfl _ rfl
      exact tt_store (by kernel_rfl) rfl (run_store 75 (.tmp 7) (.tmp 15) _ _ rfl h1 h0 (store_dw h3 h4)) (hC.rowed h2) ⟨D, h1, h2, setRow_heap _ _ _ _ _ _ h3⟩ (RT.row h2 h3 h4)
    · intro a wx hC hsz hK
      obtain ⟨D, h1, h2, cs, h3, h4⟩ := hK.2 ⟨9, .data⟩ (by simp) rfl _ rfl
      have h0 : a.tmps.getD 16 undef = wv (remV ((x % 115792089237316195423570985008687907853269984665640564039457584007913129639936) * (y % 115792089237316195423570985008687907853269984665640564039457584007913129639936)) z) := hK.2 ⟨7, .data⟩ (by simp) rfl _ rfl
      exact tt_store (by kernel_rfl) rfl (run_store 24 (.tmp 8) (.tmp 16) _ _ rfl h1 h0 (store_qw h3 h4)) (hC.rowed h2) ⟨D, h1, h2, setRow_heap _ _ _ _ _ _ h3⟩ (RT.row h2 h3 h4)
  · intro f wx hC hf
    have s10 := hf 0 _ rfl
    have s11 := hf 1 _ rfl
    have s12 := hf 2 _ rfl
    have s13 := hf 3 _ rfl
    have s14 := hf 4 _ rfl
    have s9 := hf 5 _ rfl
    have s15 := hf 6 _ rfl
    have s16 := hf 7 _ rfl
    obtain ⟨D7, s7, g7, r7⟩ := hf 10 _ rfl
    obtain ⟨D8, s8, g8, r8⟩ := hf 11 _ rfl
    clear hf
    generalize hA : putAll _ _ _ = A at *
    have hsz : A.tmps.size = 18 := by rw [← hA, putAll_size]; rfl
    have t0 : A.tmps.getD 0 undef = .agg (pw x) := by subst hA; kernel_rfl
    have t1 : A.tmps.getD 1 undef = .agg (pw y) := by subst hA; kernel_rfl
    have t2 : A.tmps.getD 2 undef = .agg (pw z) := by subst hA; kernel_rfl
    have t3 : A.tmps.getD 3 undef = .pointer (some ⟨w.heap.size, 0, none⟩) := by subst hA; kernel_rfl
    have t4 : A.tmps.getD 4 undef = .pointer (some ⟨w.heap.size + 1, 0, none⟩) := by subst hA; kernel_rfl
    have t5 : A.tmps.getD 5 undef = .pointer (some ⟨w.heap.size + 1 + 1, 0, none⟩) := by subst hA; kernel_rfl
    have t6 : A.tmps.getD 6 undef = .pointer (some ⟨w.heap.size + 1 + 1 + 1, 0, none⟩) := by subst hA; kernel_rfl
    have t17 : A.tmps.getD 17 undef = undef := by subst hA; kernel_rfl
    have hd : A.defers = [] := by subst hA; kernel_rfl
    clear hA
    obtain ⟨tm, df⟩ := A
    simp only [slots] at *
    have hL := arr_lit tm
    rw [hsz] at hL
    simp only [List.range, List.range.loop, List.map] at hL
    rw [t0, t1, t2, t3, t4, t5, t6, s7, s8, s9, s10, s11, s12, s13, s14, s15, s16, t17] at hL
    subst hL hd
    clear t0 t1 t2 t3 t4 t5 t6 s7 s8 s9 s10 s11 s12 s13 s14 s15 s16 t17 hsz
    have hr : wx.heap[D8]? = some (.cells (pw (remV ((x % 115792089237316195423570985008687907853269984665640564039457584007913129639936) * (y % 115792089237316195423570985008687907853269984665640564039457584007913129639936)) z)) 24 (0, 0)) := r8
    have HC := Lib.hid hC; clear hC
    go_wp2_with (first | (refine wpList_load_row rfl 24 _ rfl D8 rfl 24 (pw (remV ((x % 115792089237316195423570985008687907853269984665640564039457584007913129639936) * (y % 115792089237316195423570985008687907853269984665640564039457584007913129639936)) z)) (0, 0) _ hr Try.underlying24 rfl infoWord ?_) | (refine wpList_store_row rfl 24 _ _ rfl (w.heap.size + 1 + 1 + 1) (pw (remV ((x % 115792089237316195423570985008687907853269984665640564039457584007913129639936) * (y % 115792089237316195423570985008687907853269984665640564039457584007913129639936)) z)) rfl rfl 24 #[.int .u64 0, .int .u64 0, .int .u64 0, .int .u64 0] HC.out.r3 infoWord rfl (pw_one _) ?_))
    (try simp only [Exit.inBlock, Exit.then])
    exact bodyPost_ret (v := .agg (pw (remV ((x % 115792089237316195423570985008687907853269984665640564039457584007913129639936) * (y % 115792089237316195423570985008687907853269984665640564039457584007913129639936)) z))) (results_cell_row (p := 6) rfl _ _ (w.heap.size + 1 + 1 + 1) 24 _ (0, 0) _ rfl (setRow_heap _ _ _ _ _ _ HC.out.r3) Try.underlying24 rfl infoWord) rfl ⟨rfl, below_setRow HC.out.old (by omega) _⟩
end Go.Proofs.Ytfgefifplmhopaa
namespace Go.Proofs.Ytfgefifplmhopaa
open Go.RowKit

def FA (q r c : Nat) (T : TypeId) : Array Value := if T = 75 then dw q else if T = 22 then #[.int .u64 c] else pw r
theorem store_da {g q r c : Nat} {w : World} {cs : Array Value} (hg : w.heap[g]? = some (.cells cs 75 (0, 0))) (hs : cs.size = (FA q r c 75).size) : (Instr.storeAt 75 (.pointer (some ⟨g, 0, none⟩)) (dv q)).run Try.prog w = .ok () (w.setRow g (FA q r c 75)) := store_dw (r := r) hg hs
theorem store_qa {g q r c : Nat} {w : World} {cs : Array Value} (hg : w.heap[g]? = some (.cells cs 24 (0, 0))) (hs : cs.size = (FA q r c 24).size) : (Instr.storeAt 24 (.pointer (some ⟨g, 0, none⟩)) (wv r)).run Try.prog w = .ok () (w.setRow g (FA q r c 24)) := store_pw hs hg
/-- .. and the sum's block. -/
structure CU (w : World) (D x y z : Nat) (wx : World) : Prop where
  ct : CT w x y z wx
  far : w.heap.size + 1 + 1 + 1 + 1 ≤ D
  sum : wx.heap[D]? = some (.cells (pw (x + y)) 24 (0, 0))
theorem CU.high {w wx : World} {D x y z : Nat} (h : CU w D x y z wx) : D + 1 ≤ wx.heap.size := (Array.getElem?_eq_some_iff.1 h.sum).1
theorem CU.below {w wx w' : World} {D x y z : Nat} (h : CU w D x y z wx) (hb : Below wx.heap.size wx w') : CU w D x y z w' := ⟨h.ct.below hb, h.far, (hb.block _ h.high).trans h.sum⟩
theorem CU.rowed {w wx : World} {D x y z g : Nat} {cs : Array Value} (h : CU w D x y z wx) (hg : D + 1 ≤ g) : CU w D x y z (wx.setRow g cs) := ⟨h.ct.rowed (by have := h.far; omega), h.far, (setRow_other _ _ _ _ (by omega)).trans h.sum⟩
theorem sum_split (x y : Nat) : (x + y) % 115792089237316195423570985008687907853269984665640564039457584007913129639936 + 115792089237316195423570985008687907853269984665640564039457584007913129639936 * (((x % 115792089237316195423570985008687907853269984665640564039457584007913129639936) + (y % 115792089237316195423570985008687907853269984665640564039457584007913129639936)) / 115792089237316195423570985008687907853269984665640564039457584007913129639936) = ((x % 115792089237316195423570985008687907853269984665640564039457584007913129639936) + (y % 115792089237316195423570985008687907853269984665640564039457584007913129639936)) := by
  rw [Nat.add_mod x y]; exact Nat.mod_add_div _ _
theorem carry_lt (x y : Nat) : (((x % 115792089237316195423570985008687907853269984665640564039457584007913129639936) + (y % 115792089237316195423570985008687907853269984665640564039457584007913129639936)) / 115792089237316195423570985008687907853269984665640564039457584007913129639936) < 18446744073709551616 := by
  have h1 := Nat.mod_lt x (show 115792089237316195423570985008687907853269984665640564039457584007913129639936 > 0 by omega)
  have h2 := Nat.mod_lt y (show 115792089237316195423570985008687907853269984665640564039457584007913129639936 > 0 by omega)
  omega

set_option maxRecDepth 100000 in
set_option maxHeartbeats 4000000 in
-- WHAT word.AddMod COMES TO.
theorem addmod_any (x y z : Nat) (w : World) : Calls Try.prog 59 #[wv x, wv y, wv z] w fun e w' => e = .returned (wv (remV ((x % 115792089237316195423570985008687907853269984665640564039457584007913129639936) + (y % 115792089237316195423570985008687907853269984665640564039457584007913129639936)) z)) ∧ Below w.heap.size w w' := by
  rw [wv_pw x, wv_pw y, wv_pw z]
  have hadd : ∀ w, Calls Try.prog 67 #[.agg (pw x), .agg (pw y)] w fun e w' => e = .returned (.tuple #[.agg (pw (x + y)), .int .u64 ((((x % 115792089237316195423570985008687907853269984665640564039457584007913129639936) + (y % 115792089237316195423570985008687907853269984665640564039457584007913129639936)) / 115792089237316195423570985008687907853269984665640564039457584007913129639936) : Nat)]) ∧ Below w.heap.size w w' := fun w => addCarry_any x y w
  have HADD := Lib.hid hadd; clear hadd
  have hcl := carry_lt x y
  have hV : ((x % 115792089237316195423570985008687907853269984665640564039457584007913129639936) + (y % 115792089237316195423570985008687907853269984665640564039457584007913129639936)) < 13407807929942597099574024998205846127479365820592393377723561443721764030073546976801874298166903427690031858186486050853753882811946569946433649006084096 := by
    have h1 := Nat.mod_lt x (show 115792089237316195423570985008687907853269984665640564039457584007913129639936 > 0 by omega)
    have h2 := Nat.mod_lt y (show 115792089237316195423570985008687907853269984665640564039457584007913129639936 > 0 by omega)
    omega
  have HV := Lib.hid hV; clear hV
  have HCL := Lib.hid hcl; clear hcl
  have hC0 : CT w x y z ((((w.alloc (.cells (pw x) 24)).alloc (.cells (pw y) 24)).alloc (.cells (pw z) 24)).alloc (.cells #[.int .u64 0, .int .u64 0, .int .u64 0, .int .u64 0] 24)) := ⟨by go_grown, (heap4 _ _ _ _ _).1, (heap4 _ _ _ _ _).2.1, (heap4 _ _ _ _ _).2.2.1, (heap4 _ _ _ _ _).2.2.2⟩
  have HC0 := Lib.hid hC0; clear hC0
  go_enter Try.func59, Try.ntmps59
  go_wp2_with (first | (refine wpList_load_row rfl 24 _ rfl w.heap.size rfl 24 (pw x) (0, 0) _ HC0.out.r0 Try.underlying24 rfl infoWord ?_) | (refine wpList_load_row rfl 24 _ rfl (w.heap.size + 1) rfl 24 (pw y) (0, 0) _ HC0.out.r1 Try.underlying24 rfl infoWord ?_))
  refine (HADD.out _).mono ?_
  rintro e w1 ⟨rfl, hb⟩
  have HC1 := Lib.hid (HC0.out.below hb)
  clear hb
  go_wp2_with (refine wpList_store_row rfl 24 _ _ rfl w1.heap.size (pw (x + y)) rfl rfl 24 #[.int .u64 0, .int .u64 0, .int .u64 0, .int .u64 0] (heap_alloc_new _ _) infoWord rfl (pw_one _) ?_)
  have hCU : CU w w1.heap.size x y z ((w1.alloc (.cells #[.int .u64 0, .int .u64 0, .int .u64 0, .int .u64 0] 24)).setRow w1.heap.size (pw (x + y))) := ⟨(HC1.out.below (by go_grown)).rowed HC1.out.high, HC1.out.high, setRow_heap _ _ _ _ _ _ (heap_alloc_new _ _)⟩
  obtain ⟨E, hD⟩ : ∃ E, w1.heap.size = E := ⟨_, rfl⟩
  rw [hD] at hCU ⊢
  have HCU := Lib.hid hCU; clear hCU
  refine region_tie (CU w E x y z) (fun i s wx => match i with | 0 => s 18 = wv (x + y) | 1 => s 19 = .int .u64 ((((x % 115792089237316195423570985008687907853269984665640564039457584007913129639936) + (y % 115792089237316195423570985008687907853269984665640564039457584007913129639936)) / 115792089237316195423570985008687907853269984665640564039457584007913129639936) : Nat) | 2 => ∃ D, s 20 = .slice (some ⟨D, 0, none⟩) 1 1 ∧ E + 1 ≤ D ∧ wx.heap[D]? = some (.cells (FA (quoV ((x % 115792089237316195423570985008687907853269984665640564039457584007913129639936) + (y % 115792089237316195423570985008687907853269984665640564039457584007913129639936)) z) (remV ((x % 115792089237316195423570985008687907853269984665640564039457584007913129639936) + (y % 115792089237316195423570985008687907853269984665640564039457584007913129639936)) z) (((x % 115792089237316195423570985008687907853269984665640564039457584007913129639936) + (y % 115792089237316195423570985008687907853269984665640564039457584007913129639936)) / 115792089237316195423570985008687907853269984665640564039457584007913129639936) 22) 22 (0, 0)) | 3 => s 21 = dv ((x % 115792089237316195423570985008687907853269984665640564039457584007913129639936) + (y % 115792089237316195423570985008687907853269984665640564039457584007913129639936)) | 4 => s 22 = wv z | 5 => s 23 = .tuple #[dv (quoV ((x % 115792089237316195423570985008687907853269984665640564039457584007913129639936) + (y % 115792089237316195423570985008687907853269984665640564039457584007913129639936)) z), wv (remV ((x % 115792089237316195423570985008687907853269984665640564039457584007913129639936) + (y % 115792089237316195423570985008687907853269984665640564039457584007913129639936)) z)] | 6 => s 17 = .tuple #[dv (quoV ((x % 115792089237316195423570985008687907853269984665640564039457584007913129639936) + (y % 115792089237316195423570985008687907853269984665640564039457584007913129639936)) z), wv (remV ((x % 115792089237316195423570985008687907853269984665640564039457584007913129639936) + (y % 115792089237316195423570985008687907853269984665640564039457584007913129639936)) z)] | 7 => s 24 = dv (quoV ((x % 115792089237316195423570985008687907853269984665640564039457584007913129639936) + (y % 115792089237316195423570985008687907853269984665640564039457584007913129639936)) z) | 8 => s 25 = wv (remV ((x % 115792089237316195423570985008687907853269984665640564039457584007913129639936) + (y % 115792089237316195423570985008687907853269984665640564039457584007913129639936)) z) | 9 => ∃ D, s 9 = .pointer (some ⟨D, 0, none⟩) ∧ E + 1 ≤ D ∧ ∃ cs, wx.heap[D]? = some (.cells cs 75 (0, 0)) ∧ cs.size = 8 | 10 => ∃ D, s 10 = .pointer (some ⟨D, 0, none⟩) ∧ E + 1 ≤ D ∧ ∃ cs, wx.heap[D]? = some (.cells cs 24 (0, 0)) ∧ cs.size = 4 | 11 => ∃ D, s 9 = .pointer (some ⟨D, 0, none⟩) ∧ E + 1 ≤ D ∧ wx.heap[D]? = some (.cells (FA (quoV ((x % 115792089237316195423570985008687907853269984665640564039457584007913129639936) + (y % 115792089237316195423570985008687907853269984665640564039457584007913129639936)) z) (remV ((x % 115792089237316195423570985008687907853269984665640564039457584007913129639936) + (y % 115792089237316195423570985008687907853269984665640564039457584007913129639936)) z) (((x % 115792089237316195423570985008687907853269984665640564039457584007913129639936) + (y % 115792089237316195423570985008687907853269984665640564039457584007913129639936)) / 115792089237316195423570985008687907853269984665640564039457584007913129639936) 75) 75 (0, 0)) | 12 => ∃ D, s 10 = .pointer (some ⟨D, 0, none⟩) ∧ E + 1 ≤ D ∧ wx.heap[D]? = some (.cells (FA (quoV ((x % 115792089237316195423570985008687907853269984665640564039457584007913129639936) + (y % 115792089237316195423570985008687907853269984665640564039457584007913129639936)) z) (remV ((x % 115792089237316195423570985008687907853269984665640564039457584007913129639936) + (y % 115792089237316195423570985008687907853269984665640564039457584007913129639936)) z) (((x % 115792089237316195423570985008687907853269984665640564039457584007913129639936) + (y % 115792089237316195423570985008687907853269984665640564039457584007913129639936)) / 115792089237316195423570985008687907853269984665640564039457584007913129639936) 24) 24 (0, 0)) | _ => True) (RT (E + 1) (FA (quoV ((x % 115792089237316195423570985008687907853269984665640564039457584007913129639936) + (y % 115792089237316195423570985008687907853269984665640564039457584007913129639936)) z) (remV ((x % 115792089237316195423570985008687907853269984665640564039457584007913129639936) + (y % 115792089237316195423570985008687907853269984665640564039457584007913129639936)) z) (((x % 115792089237316195423570985008687907853269984665640564039457584007913129639936) + (y % 115792089237316195423570985008687907853269984665640564039457584007913129639936)) / 115792089237316195423570985008687907853269984665640564039457584007913129639936))) (fun i => match i with | 0 => [18] | 1 => [19] | 2 => [20] | 3 => [21] | 4 => [22] | 5 => [23] | 6 => [17] | 7 => [24] | 8 => [25] | 9 => [9] | 10 => [10] | 11 => [9] | 12 => [10] | _ => []) (fun i => i) (by kernel_rfl) (by kernel_rfl) ⟨⟨HCU.out.ct.old.drew, HCU.out.ct.r0, HCU.out.ct.r1, HCU.out.ct.r2, HCU.out.ct.r3⟩, HCU.out.far, HCU.out.sum⟩ ?_ ?_ ?_ ?_
  · intro i s s' wx he hp
    match i, he, hp with
    | 0, he, hp => exact (he 18 (by simp)).symm.trans hp
    | 1, he, hp => exact (he 19 (by simp)).symm.trans hp
    | 2, he, hp => obtain ⟨D, h1, h2⟩ := hp; exact ⟨D, (he 20 (by simp)).symm.trans h1, h2⟩
    | 3, he, hp => exact (he 21 (by simp)).symm.trans hp
    | 4, he, hp => exact (he 22 (by simp)).symm.trans hp
    | 5, he, hp => exact (he 23 (by simp)).symm.trans hp
    | 6, he, hp => exact (he 17 (by simp)).symm.trans hp
    | 7, he, hp => exact (he 24 (by simp)).symm.trans hp
    | 8, he, hp => exact (he 25 (by simp)).symm.trans hp
    | 9, he, hp => obtain ⟨D, h1, h2⟩ := hp; exact ⟨D, (he 9 (by simp)).symm.trans h1, h2⟩
    | 10, he, hp => obtain ⟨D, h1, h2⟩ := hp; exact ⟨D, (he 10 (by simp)).symm.trans h1, h2⟩
    | 11, he, hp => obtain ⟨D, h1, h2⟩ := hp; exact ⟨D, (he 9 (by simp)).symm.trans h1, h2⟩
    | 12, he, hp => obtain ⟨D, h1, h2⟩ := hp; exact ⟨D, (he 10 (by simp)).symm.trans h1, h2⟩
    | _ + 13, _, _ => trivial
  · intro i s wa wb hR hp
    match i, hp with
    | 0, hp => exact hp
    | 1, hp => exact hp
    | 2, hp => obtain ⟨D, h1, h2, h3⟩ := hp; exact ⟨D, h1, h2, hR.keep _ _ _ h3⟩
    | 3, hp => exact hp
    | 4, hp => exact hp
    | 5, hp => exact hp
    | 6, hp => exact hp
    | 7, hp => exact hp
    | 8, hp => exact hp
    | 9, hp => obtain ⟨D, h1, h2, cs, h3, h4⟩ := hp; obtain ⟨cs', h5, h6⟩ := hR.shape _ _ _ _ h3; exact ⟨D, h1, h2, cs', h5, h6.trans h4⟩
    | 10, hp => obtain ⟨D, h1, h2, cs, h3, h4⟩ := hp; obtain ⟨cs', h5, h6⟩ := hR.shape _ _ _ _ h3; exact ⟨D, h1, h2, cs', h5, h6.trans h4⟩
    | 11, hp => obtain ⟨D, h1, h2, h3⟩ := hp; exact ⟨D, h1, h2, hR.keep _ _ _ h3⟩
    | 12, hp => obtain ⟨D, h1, h2, h3⟩ := hp; exact ⟨D, h1, h2, hR.keep _ _ _ h3⟩
    | _ + 13, _ => trivial
  · refine ⟨?_, ?_, ?_, ?_, ?_, ?_, ?_, ?_, ?_, ?_, ?_, ?_, ?_, trivial⟩
    · intro a wx hC hsz hK
      have h0 : a.tmps.getD 7 undef = .pointer (some ⟨E, 0, none⟩) := hK.1 7 (by kernel_rfl)
      exact tt_load 24 (.tmp 7) (.pointer (some ⟨E, 0, none⟩)) (wv (x + y)) rfl (by kernel_rfl) h0 (load_pw hC.sum) hC (slots_put _ _ _ (by rw [hsz]; exact of_decide_eq_true (by kernel_rfl))) (RT.refl _ _ _)
    · intro a wx hC hsz hK
      have h0 : a.tmps.getD 8 undef = .int .u64 ((((x % 115792089237316195423570985008687907853269984665640564039457584007913129639936) + (y % 115792089237316195423570985008687907853269984665640564039457584007913129639936)) / 115792089237316195423570985008687907853269984665640564039457584007913129639936) : Nat) := hK.1 8 (by kernel_rfl)
      exact tt_val (.int .u64 ((((x % 115792089237316195423570985008687907853269984665640564039457584007913129639936) + (y % 115792089237316195423570985008687907853269984665640564039457584007913129639936)) / 115792089237316195423570985008687907853269984665640564039457584007913129639936) : Nat)) (by kernel_rfl) (by rw [← h0]; kernel_rfl) hC (slots_put _ _ _ (by rw [hsz]; exact of_decide_eq_true (by kernel_rfl))) (RT.refl _ _ _)
    · intro a wx hC hsz hK
      have h0 : a.tmps.getD 19 undef = .int .u64 ((((x % 115792089237316195423570985008687907853269984665640564039457584007913129639936) + (y % 115792089237316195423570985008687907853269984665640564039457584007913129639936)) / 115792089237316195423570985008687907853269984665640564039457584007913129639936) : Nat) := hK.2 ⟨1, .data⟩ (by simp) rfl _ rfl
      refine tt_v (Instr.buildSlice 50 1 #[(0, a.tmps.getD 19 undef)]) (.slice (some ⟨wx.heap.size, 0, none⟩) 1 1) (by kernel_rfl) (by kernel_rfl) (w' := wx.alloc (.cells #[.int .u64 ((((x % 115792089237316195423570985008687907853269984665640564039457584007913129639936) + (y % 115792089237316195423570985008687907853269984665640564039457584007913129639936)) / 115792089237316195423570985008687907853269984665640564039457584007913129639936) : Nat)] 22)) ?_ (hC.below ((Below.refl _ _).alloc (Nat.le_refl _) _)) ⟨_, slots_put _ _ _ (by rw [hsz]; exact of_decide_eq_true (by kernel_rfl)), hC.high, heap_alloc_new _ _⟩ (RT.of hC.high ((Below.refl _ _).alloc (Nat.le_refl _) _))
      rw [h0]; kernel_rfl
    · intro a wx hC hsz hK
      have h0 : a.tmps.getD 18 undef = wv (x + y) := hK.2 ⟨0, .data⟩ (by simp) rfl _ rfl
      obtain ⟨b, h1, h2, h3⟩ := hK.2 ⟨2, .data⟩ (by simp) rfl _ rfl
      have h1' : a.tmps.getD 20 undef = .slice (some ⟨b, 0, none⟩) 1 1 := h1
      refine tt_call 66 #[a.tmps.getD 18 undef, a.tmps.getD 20 undef] (by kernel_rfl) (by kernel_rfl) ?_
      rw [h0, h1']
      have hw := widen_more (x + y) (((x % 115792089237316195423570985008687907853269984665640564039457584007913129639936) + (y % 115792089237316195423570985008687907853269984665640564039457584007913129639936)) / 115792089237316195423570985008687907853269984665640564039457584007913129639936) b HCL.out wx (Array.getElem?_eq_some_iff.1 h3).1 ((cell_of_row _ _ 0 _ _ _ h3).trans rfl)
      rw [sum_split] at hw
      exact hw.mono fun e w' hh => ⟨_, hh.1, hC.below hh.2, slots_put _ _ _ (by rw [hsz]; exact of_decide_eq_true (by kernel_rfl)), RT.of hC.high hh.2⟩
    · intro a wx hC hsz hK
      have h0 : a.tmps.getD 5 undef = .pointer (some ⟨w.heap.size + 1 + 1, 0, none⟩) := hK.1 5 (by kernel_rfl)
      exact tt_load 24 (.tmp 5) (.pointer (some ⟨w.heap.size + 1 + 1, 0, none⟩)) (wv z) rfl (by kernel_rfl) h0 (load_pw hC.ct.r2) hC (slots_put _ _ _ (by rw [hsz]; exact of_decide_eq_true (by kernel_rfl))) (RT.refl _ _ _)
    · intro a wx hC hsz hK
      have h0 : a.tmps.getD 21 undef = dv ((x % 115792089237316195423570985008687907853269984665640564039457584007913129639936) + (y % 115792089237316195423570985008687907853269984665640564039457584007913129639936)) := hK.2 ⟨3, .data⟩ (by simp) rfl _ rfl
      have h1 : a.tmps.getD 22 undef = wv z := hK.2 ⟨4, .data⟩ (by simp) rfl _ rfl
      refine tt_call 65 #[a.tmps.getD 21 undef, a.tmps.getD 22 undef] (by kernel_rfl) (by kernel_rfl) ?_
      rw [h0, h1]
      exact ((fun wx => divide_all ((x % 115792089237316195423570985008687907853269984665640564039457584007913129639936) + (y % 115792089237316195423570985008687907853269984665640564039457584007913129639936)) z HV.out wx) wx).mono fun e w' hh => ⟨_, hh.1, hC.below hh.2, slots_put _ _ _ (by rw [hsz]; exact of_decide_eq_true (by kernel_rfl)), RT.of hC.high hh.2⟩
    · intro a wx hC hsz hK
      have h0 : a.tmps.getD 23 undef = .tuple #[dv (quoV ((x % 115792089237316195423570985008687907853269984665640564039457584007913129639936) + (y % 115792089237316195423570985008687907853269984665640564039457584007913129639936)) z), wv (remV ((x % 115792089237316195423570985008687907853269984665640564039457584007913129639936) + (y % 115792089237316195423570985008687907853269984665640564039457584007913129639936)) z)] := hK.2 ⟨5, .data⟩ (by simp) rfl _ rfl
      exact tt_val (.tuple #[dv (quoV ((x % 115792089237316195423570985008687907853269984665640564039457584007913129639936) + (y % 115792089237316195423570985008687907853269984665640564039457584007913129639936)) z), wv (remV ((x % 115792089237316195423570985008687907853269984665640564039457584007913129639936) + (y % 115792089237316195423570985008687907853269984665640564039457584007913129639936)) z)]) (by kernel_rfl) (by rw [← h0]; kernel_rfl) hC (slots_put _ _ _ (by rw [hsz]; exact of_decide_eq_true (by kernel_rfl))) (RT.refl _ _ _)
    · intro a wx hC hsz hK
      have h0 : a.tmps.getD 17 undef = .tuple #[dv (quoV ((x % 115792089237316195423570985008687907853269984665640564039457584007913129639936) + (y % 115792089237316195423570985008687907853269984665640564039457584007913129639936)) z), wv (remV ((x % 115792089237316195423570985008687907853269984665640564039457584007913129639936) + (y % 115792089237316195423570985008687907853269984665640564039457584007913129639936)) z)] := hK.2 ⟨6, .data⟩ (by simp) rfl _ rfl
      refine tt_v (Instr.extract (a.tmps.getD 17 undef) 0) (dv (quoV ((x % 115792089237316195423570985008687907853269984665640564039457584007913129639936) + (y % 115792089237316195423570985008687907853269984665640564039457584007913129639936)) z)) (by kernel_rfl) rfl ?_ hC (slots_put _ _ _ (by rw [hsz]; exact of_decide_eq_true (by kernel_rfl))) (RT.refl _ _ _)
      rw [h0]; kernel_rfl
    · intro a wx hC hsz hK
      have h0 : a.tmps.getD 17 undef = .tuple #[dv (quoV ((x % 115792089237316195423570985008687907853269984665640564039457584007913129639936) + (y % 115792089237316195423570985008687907853269984665640564039457584007913129639936)) z), wv (remV ((x % 115792089237316195423570985008687907853269984665640564039457584007913129639936) + (y % 115792089237316195423570985008687907853269984665640564039457584007913129639936)) z)] := hK.2 ⟨6, .data⟩ (by simp) rfl _ rfl
      refine tt_v (Instr.extract (a.tmps.getD 17 undef) 1) (wv (remV ((x % 115792089237316195423570985008687907853269984665640564039457584007913129639936) + (y % 115792089237316195423570985008687907853269984665640564039457584007913129639936)) z)) (by kernel_rfl) rfl ?_ hC (slots_put _ _ _ (by rw [hsz]; exact of_decide_eq_true (by kernel_rfl))) (RT.refl _ _ _)
      rw [h0]; kernel_rfl
    · intro a wx hC hsz hK
      exact tt_new (.pointer (some ⟨wx.heap.size, 0, none⟩)) (by kernel_rfl) (by kernel_rfl) (hC.below ((Below.refl _ _).alloc (Nat.le_refl _) _)) ⟨_, slots_put _ _ _ (by rw [hsz]; exact of_decide_eq_true (by kernel_rfl)), hC.high, #[.int .u64 0, .int .u64 0, .int .u64 0, .int .u64 0, .int .u64 0, .int .u64 0, .int .u64 0, .int .u64 0], heap_alloc_new _ _, rfl⟩ (RT.of hC.high ((Below.refl _ _).alloc (Nat.le_refl _) _))
    · intro a wx hC hsz hK
      exact tt_new (.pointer (some ⟨wx.heap.size, 0, none⟩)) (by kernel_rfl) (by kernel_rfl) (hC.below ((Below.refl _ _).alloc (Nat.le_refl _) _)) ⟨_, slots_put _ _ _ (by rw [hsz]; exact of_decide_eq_true (by kernel_rfl)), hC.high, #[.int .u64 0, .int .u64 0, .int .u64 0, .int .u64 0], heap_alloc_new _ _, rfl⟩ (RT.of hC.high ((Below.refl _ _).alloc (Nat.le_refl _) _))
    · intro a wx hC hsz hK
      obtain ⟨D, h1, h2, cs, h3, h4⟩ := hK.2 ⟨9, .data⟩ (by simp) rfl _ rfl
      have h0 : a.tmps.getD 24 undef = dv (quoV ((x % 115792089237316195423570985008687907853269984665640564039457584007913129639936) + (y % 115792089237316195423570985008687907853269984665640564039457584007913129639936)) z) := hK.2 ⟨7, .data⟩ (by simp) rfl _ rfl
      exact tt_store (by kernel_rfl) rfl (run_store 75 (.tmp 9) (.tmp 24) _ _ rfl h1 h0 (store_da h3 h4)) (hC.rowed h2) ⟨D, h1, h2, setRow_heap _ _ _ _ _ _ h3⟩ (RT.row h2 h3 h4)
    · intro a wx hC hsz hK
      obtain ⟨D, h1, h2, cs, h3, h4⟩ := hK.2 ⟨10, .data⟩ (by simp) rfl _ rfl
      have h0 : a.tmps.getD 25 undef = wv (remV ((x % 115792089237316195423570985008687907853269984665640564039457584007913129639936) + (y % 115792089237316195423570985008687907853269984665640564039457584007913129639936)) z) := hK.2 ⟨8, .data⟩ (by simp) rfl _ rfl
      exact tt_store (by kernel_rfl) rfl (run_store 24 (.tmp 10) (.tmp 25) _ _ rfl h1 h0 (store_qa h3 h4)) (hC.rowed h2) ⟨D, h1, h2, setRow_heap _ _ _ _ _ _ h3⟩ (RT.row h2 h3 h4)
  · intro f wx hC hf
    have s18 := hf 0 _ rfl
    have s19 := hf 1 _ rfl
    obtain ⟨D20, s20, g20, r20⟩ := hf 2 _ rfl
    have s21 := hf 3 _ rfl
    have s22 := hf 4 _ rfl
    have s23 := hf 5 _ rfl
    have s17 := hf 6 _ rfl
    have s24 := hf 7 _ rfl
    have s25 := hf 8 _ rfl
    obtain ⟨D9, s9, g9, r9⟩ := hf 11 _ rfl
    obtain ⟨D10, s10, g10, r10⟩ := hf 12 _ rfl
    clear hf
    generalize hA : putAll _ _ _ = A at *
    have hsz : A.tmps.size = 27 := by rw [← hA, putAll_size]; rfl
    have t0 : A.tmps.getD 0 undef = .agg (pw x) := by subst hA; kernel_rfl
    have t1 : A.tmps.getD 1 undef = .agg (pw y) := by subst hA; kernel_rfl
    have t2 : A.tmps.getD 2 undef = .agg (pw z) := by subst hA; kernel_rfl
    have t3 : A.tmps.getD 3 undef = .pointer (some ⟨w.heap.size, 0, none⟩) := by subst hA; kernel_rfl
    have t4 : A.tmps.getD 4 undef = .pointer (some ⟨w.heap.size + 1, 0, none⟩) := by subst hA; kernel_rfl
    have t5 : A.tmps.getD 5 undef = .pointer (some ⟨w.heap.size + 1 + 1, 0, none⟩) := by subst hA; kernel_rfl
    have t6 : A.tmps.getD 6 undef = .pointer (some ⟨w.heap.size + 1 + 1 + 1, 0, none⟩) := by subst hA; kernel_rfl
    have t7 : A.tmps.getD 7 undef = .pointer (some ⟨E, 0, none⟩) := by subst hA; kernel_rfl
    have t8 : A.tmps.getD 8 undef = .int .u64 ((((x % 115792089237316195423570985008687907853269984665640564039457584007913129639936) + (y % 115792089237316195423570985008687907853269984665640564039457584007913129639936)) / 115792089237316195423570985008687907853269984665640564039457584007913129639936) : Nat) := by subst hA; kernel_rfl
    have t11 : A.tmps.getD 11 undef = .tuple #[.agg (pw (x + y)), .int .u64 ((((x % 115792089237316195423570985008687907853269984665640564039457584007913129639936) + (y % 115792089237316195423570985008687907853269984665640564039457584007913129639936)) / 115792089237316195423570985008687907853269984665640564039457584007913129639936) : Nat)] := by subst hA; kernel_rfl
    have t12 : A.tmps.getD 12 undef = .agg (pw x) := by subst hA; kernel_rfl
    have t13 : A.tmps.getD 13 undef = .agg (pw y) := by subst hA; kernel_rfl
    have t14 : A.tmps.getD 14 undef = .tuple #[.agg (pw (x + y)), .int .u64 ((((x % 115792089237316195423570985008687907853269984665640564039457584007913129639936) + (y % 115792089237316195423570985008687907853269984665640564039457584007913129639936)) / 115792089237316195423570985008687907853269984665640564039457584007913129639936) : Nat)] := by subst hA; kernel_rfl
    have t15 : A.tmps.getD 15 undef = .agg (pw (x + y)) := by subst hA; kernel_rfl
    have t16 : A.tmps.getD 16 undef = .int .u64 ((((x % 115792089237316195423570985008687907853269984665640564039457584007913129639936) + (y % 115792089237316195423570985008687907853269984665640564039457584007913129639936)) / 115792089237316195423570985008687907853269984665640564039457584007913129639936) : Nat) := by subst hA; kernel_rfl
    have t26 : A.tmps.getD 26 undef = undef := by subst hA; kernel_rfl
    have hd : A.defers = [] := by subst hA; kernel_rfl
    clear hA
    obtain ⟨tm, df⟩ := A
    simp only [slots] at *
    have hL := arr_lit tm
    rw [hsz] at hL
    simp only [List.range, List.range.loop, List.map] at hL
    rw [t0, t1, t2, t3, t4, t5, t6, t7, t8, s9, s10, t11, t12, t13, t14, t15, t16, s17, s18, s19, s20, s21, s22, s23, s24, s25, t26] at hL
    subst hL hd
    clear t0 t1 t2 t3 t4 t5 t6 t7 t8 s9 s10 t11 t12 t13 t14 t15 t16 s17 s18 s19 s20 s21 s22 s23 s24 s25 t26 hsz
    have hr : wx.heap[D10]? = some (.cells (pw (remV ((x % 115792089237316195423570985008687907853269984665640564039457584007913129639936) + (y % 115792089237316195423570985008687907853269984665640564039457584007913129639936)) z)) 24 (0, 0)) := r10
    have HC := Lib.hid hC.ct; clear hC
    go_wp2_with (first | (refine wpList_load_row rfl 24 _ rfl D10 rfl 24 (pw (remV ((x % 115792089237316195423570985008687907853269984665640564039457584007913129639936) + (y % 115792089237316195423570985008687907853269984665640564039457584007913129639936)) z)) (0, 0) _ hr Try.underlying24 rfl infoWord ?_) | (refine wpList_store_row rfl 24 _ _ rfl (w.heap.size + 1 + 1 + 1) (pw (remV ((x % 115792089237316195423570985008687907853269984665640564039457584007913129639936) + (y % 115792089237316195423570985008687907853269984665640564039457584007913129639936)) z)) rfl rfl 24 #[.int .u64 0, .int .u64 0, .int .u64 0, .int .u64 0] HC.out.r3 infoWord rfl (pw_one _) ?_))
    (try simp only [Exit.inBlock, Exit.then])
    exact bodyPost_ret (v := .agg (pw (remV ((x % 115792089237316195423570985008687907853269984665640564039457584007913129639936) + (y % 115792089237316195423570985008687907853269984665640564039457584007913129639936)) z))) (results_cell_row (p := 6) rfl _ _ (w.heap.size + 1 + 1 + 1) 24 _ (0, 0) _ rfl (setRow_heap _ _ _ _ _ _ HC.out.r3) Try.underlying24 rfl infoWord) rfl ⟨rfl, below_setRow HC.out.old (by omega) _⟩
end Go.Proofs.Ytfgefifplmhopaa
namespace Go.Proofs.Ytfgefifplmhopaa
open Go.RowKit

/-- The worlds of a law over two words: nothing elder has turned; they lie in the call's first two blocks. -/
def CW2 (w : World) (x y : Nat) (wx : World) : Prop :=
  Below w.heap.size w wx ∧ wx.heap[w.heap.size]? = some (.cells (pw x) 24 (0, 0)) ∧ wx.heap[w.heap.size + 1]? = some (.cells (pw y) 24 (0, 0))
theorem CW2.below {w wx w' : World} {x y : Nat} (h : CW2 w x y wx) (hb : Below wx.heap.size wx w') : CW2 w x y w' := by
  have hl := (Array.getElem?_eq_some_iff.1 h.2.2).1
  exact ⟨h.1.trans (hb.mono h.1.size), (hb.block _ (by omega)).trans h.2.1, (hb.block _ hl).trans h.2.2⟩
theorem CW2.call {w : World} {x y : Nat} {f : FuncId} {args : Array Value} {v : Value} (h : ∀ w, Calls Try.prog f args w fun e w' => e = .returned v ∧ Below w.heap.size w w') : ∀ wx, CW2 w x y wx → Calls Try.prog f args wx fun e w' => e = .returned v ∧ CW2 w x y w' :=
  fun wx hC => (h wx).mono fun _ _ h => ⟨h.1, hC.below h.2⟩

end Go.Proofs.Ytfgefifplmhopaa
namespace Go.Proofs.Ytfgefifplmhopaa
open Go.RowKit

theorem and_one (z : Nat) (h : z < 18446744073709551616) : bits .and .u64 z 1 = ((z % 2 : Nat) : Int) := by
  have := bits_and_u64_nat z 1 h (by omega)
  rw [Nat.and_one_is_mod] at this
  exact this
theorem bit_of (x i p s : Nat) (hp : i / 64 = p) (hs : i % 64 = s) : pN x p / 2 ^ s % 2 = x % 115792089237316195423570985008687907853269984665640564039457584007913129639936 / 2 ^ i % 2 := by
  subst hp hs
  unfold pN
  have e : 18446744073709551616 = 2 ^ (i % 64) * 2 ^ (64 - i % 64) := by rw [← Nat.pow_add, show i % 64 + (64 - i % 64) = 64 by omega]
  have hd : (2 : Nat) ∣ 2 ^ (64 - i % 64) := by
    have := Nat.pow_dvd_pow 2 (show 1 ≤ 64 - i % 64 by omega)
    simpa using this
  rw [e, Nat.mod_mul_right_div_self, Nat.mod_mod_of_dvd _ hd, Nat.div_div_eq_div_mul, ← Nat.pow_add, show 64 * (i / 64) + i % 64 = i by omega]
theorem pw_at (x p : Nat) (h : p < 4) : (pw x)[p]? = some (.int .u64 (pN x p : Nat)) := by
  have c : p = 0 ∨ p = 1 ∨ p = 2 ∨ p = 3 := by omega
  rcases c with rfl | rfl | rfl | rfl
  · simp [pw, pN]
  · simp [pw, pN]; omega
  · simp [pw, pN]; omega
  · simp [pw, pN]; omega

set_option maxRecDepth 100000 in
set_option maxHeartbeats 1000000 in
theorem len_0  (w : World) : Calls Try.prog 57 #[.agg #[.int .u64 0, .int .u64 0, .int .u64 0, .int .u64 0]] w fun e w' => e = .returned (.int .i64 0) ∧ Below w.heap.size w w' := by
  go_enter Try.func57, Try.ntmps57
  go_wp2
  refine wp_loop_rounds 5 ?_
  rw [rounds_succ]; go_wp2
  rw [rounds_succ]; go_wp2
  rw [rounds_succ]; go_wp2
  rw [rounds_succ]; go_wp2
  rw [rounds_succ]; go_wp2
  go_ret
  exact ⟨rfl, by go_grown⟩

set_option maxRecDepth 100000 in
set_option maxHeartbeats 1000000 in
theorem len_1 (a0 : Nat) (h0 : ((a0 : Int) != 0) = true) (hl0 : (a0 : Int) ≤ 18446744073709551615) (w : World) : Calls Try.prog 57 #[.agg #[.int .u64 a0, .int .u64 0, .int .u64 0, .int .u64 0]] w fun e w' => e = .returned (.int .i64 (Lib.bitLen a0 : Nat)) ∧ Below w.heap.size w w' := by
  have hL := fun w => Try.bits_Len64 (a0 : Int) w (by omega) hl0
  rw [Int.toNat_natCast] at hL
  have hb : Lib.bitLen a0 ≤ 64 := by
    by_cases h : a0 = 0
    · rw [h]; decide
    · obtain ⟨-, h2, -⟩ := bitLen_bounds a0 (by omega) h
      have h5 : ¬ 65 ≤ Lib.bitLen a0 := fun h => by
        have := Nat.pow_le_pow_right (n := 2) (by omega) (show 64 ≤ Lib.bitLen a0 - 1 by omega)
        omega
      omega
  generalize Lib.bitLen a0 = L at *
  have hb0 : (0 : Int) ≤ L := by omega
  have hb1 : (L : Int) ≤ 64 := by omega
  go_enter Try.func57, Try.ntmps57
  go_wp2
  refine wp_loop_rounds 4 ?_
  rw [rounds_succ]; go_wp2
  rw [rounds_succ]; go_wp2
  rw [rounds_succ]; go_wp2
  rw [rounds_succ]; go_wp2_with fail
  refine (hL _).mono ?_
  rintro e w' ⟨rfl, hw⟩
  subst hw
  go_wp2
  go_ret
  exact ⟨rfl, by go_grown⟩

set_option maxRecDepth 100000 in
set_option maxHeartbeats 1000000 in
theorem len_2 (a0 a1 : Nat) (h1 : ((a1 : Int) != 0) = true) (hl1 : (a1 : Int) ≤ 18446744073709551615) (w : World) : Calls Try.prog 57 #[.agg #[.int .u64 a0, .int .u64 a1, .int .u64 0, .int .u64 0]] w fun e w' => e = .returned (.int .i64 (64 + (Lib.bitLen a1 : Nat))) ∧ Below w.heap.size w w' := by
  have hL := fun w => Try.bits_Len64 (a1 : Int) w (by omega) hl1
  rw [Int.toNat_natCast] at hL
  have hb : Lib.bitLen a1 ≤ 64 := by
    by_cases h : a1 = 0
    · rw [h]; decide
    · obtain ⟨-, h2, -⟩ := bitLen_bounds a1 (by omega) h
      have h5 : ¬ 65 ≤ Lib.bitLen a1 := fun h => by
        have := Nat.pow_le_pow_right (n := 2) (by omega) (show 64 ≤ Lib.bitLen a1 - 1 by omega)
        omega
      omega
  generalize Lib.bitLen a1 = L at *
  have hb0 : (0 : Int) ≤ L := by omega
  have hb1 : (L : Int) ≤ 64 := by omega
  go_enter Try.func57, Try.ntmps57
  go_wp2
  refine wp_loop_rounds 3 ?_
  rw [rounds_succ]; go_wp2
  rw [rounds_succ]; go_wp2
  rw [rounds_succ]; go_wp2_with fail
  refine (hL _).mono ?_
  rintro e w' ⟨rfl, hw⟩
  subst hw
  go_wp2
  go_ret
  exact ⟨rfl, by go_grown⟩

set_option maxRecDepth 100000 in
set_option maxHeartbeats 1000000 in
theorem len_3 (a0 a1 a2 : Nat) (h2 : ((a2 : Int) != 0) = true) (hl2 : (a2 : Int) ≤ 18446744073709551615) (w : World) : Calls Try.prog 57 #[.agg #[.int .u64 a0, .int .u64 a1, .int .u64 a2, .int .u64 0]] w fun e w' => e = .returned (.int .i64 (128 + (Lib.bitLen a2 : Nat))) ∧ Below w.heap.size w w' := by
  have hL := fun w => Try.bits_Len64 (a2 : Int) w (by omega) hl2
  rw [Int.toNat_natCast] at hL
  have hb : Lib.bitLen a2 ≤ 64 := by
    by_cases h : a2 = 0
    · rw [h]; decide
    · obtain ⟨-, h2, -⟩ := bitLen_bounds a2 (by omega) h
      have h5 : ¬ 65 ≤ Lib.bitLen a2 := fun h => by
        have := Nat.pow_le_pow_right (n := 2) (by omega) (show 64 ≤ Lib.bitLen a2 - 1 by omega)
        omega
      omega
  generalize Lib.bitLen a2 = L at *
  have hb0 : (0 : Int) ≤ L := by omega
  have hb1 : (L : Int) ≤ 64 := by omega
  go_enter Try.func57, Try.ntmps57
  go_wp2
  refine wp_loop_rounds 2 ?_
  rw [rounds_succ]; go_wp2
  rw [rounds_succ]; go_wp2_with fail
  refine (hL _).mono ?_
  rintro e w' ⟨rfl, hw⟩
  subst hw
  go_wp2
  go_ret
  exact ⟨rfl, by go_grown⟩

set_option maxRecDepth 100000 in
set_option maxHeartbeats 1000000 in
theorem len_4 (a0 a1 a2 a3 : Nat) (h3 : ((a3 : Int) != 0) = true) (hl3 : (a3 : Int) ≤ 18446744073709551615) (w : World) : Calls Try.prog 57 #[.agg #[.int .u64 a0, .int .u64 a1, .int .u64 a2, .int .u64 a3]] w fun e w' => e = .returned (.int .i64 (192 + (Lib.bitLen a3 : Nat))) ∧ Below w.heap.size w w' := by
  have hL := fun w => Try.bits_Len64 (a3 : Int) w (by omega) hl3
  rw [Int.toNat_natCast] at hL
  have hb : Lib.bitLen a3 ≤ 64 := by
    by_cases h : a3 = 0
    · rw [h]; decide
    · obtain ⟨-, h2, -⟩ := bitLen_bounds a3 (by omega) h
      have h5 : ¬ 65 ≤ Lib.bitLen a3 := fun h => by
        have := Nat.pow_le_pow_right (n := 2) (by omega) (show 64 ≤ Lib.bitLen a3 - 1 by omega)
        omega
      omega
  generalize Lib.bitLen a3 = L at *
  have hb0 : (0 : Int) ≤ L := by omega
  have hb1 : (L : Int) ≤ 64 := by omega
  go_enter Try.func57, Try.ntmps57
  go_wp2
  refine wp_loop_rounds 1 ?_
  rw [rounds_succ]; go_wp2_with fail
  refine (hL _).mono ?_
  rintro e w' ⟨rfl, hw⟩
  subst hw
  go_wp2
  go_ret
  exact ⟨rfl, by go_grown⟩
end Go.Proofs.Ytfgefifplmhopaa
namespace Go.Proofs.Ytfgefifplmhopaa
open Go.RowKit

theorem wv_small {x : Nat} (h : x < 18446744073709551616) : wv x = .agg #[.int .u64 x, .int .u64 0, .int .u64 0, .int .u64 0] := by
  have := wv_n4 (a0 := x) (a1 := 0) (a2 := 0) (a3 := 0) h (by omega) (by omega) (by omega)
  rw [show n4 x 0 0 0 = x by unfold n4; omega] at this
  exact this
theorem wv_zero : wv 0 = .agg #[.int .u64 0, .int .u64 0, .int .u64 0, .int .u64 0] := by kernel_rfl

/-- What Byte comes to. -/
def byteN (k x : Nat) : Nat := if k % 115792089237316195423570985008687907853269984665640564039457584007913129639936 ≤ 31 then bt x (k % 115792089237316195423570985008687907853269984665640564039457584007913129639936) else 0
end Go.Proofs.Ytfgefifplmhopaa
namespace Go.Proofs.Ytfgefifplmhopaa
open Go.RowKit

/-- Four cells that may be written. -/
def Free4 (B : Nat) (wx : World) : Prop := wx.frozen? ⟨B, 0, none⟩ = false ∧ wx.frozen? ⟨B, 1, none⟩ = false ∧ wx.frozen? ⟨B, 2, none⟩ = false ∧ wx.frozen? ⟨B, 3, none⟩ = false
theorem Free4.below {B : Nat} {wx w' : World} (h : Free4 B wx) (hb : Below wx.heap.size wx w') (hB : B < wx.heap.size) : Free4 B w' :=
  ⟨(hb.frozen hB).trans h.1, (hb.frozen hB).trans h.2.1, (hb.frozen hB).trans h.2.2.1, (hb.frozen hB).trans h.2.2.2⟩

/-- What Sar comes to, by fewer than 256 bits. -/
def sarN (s y : Nat) : Nat := if 57896044618658097711785492504343953926634992332820282019728792003956564819968 ≤ y then 115792089237316195423570985008687907853269984665640564039457584007913129639935 - (115792089237316195423570985008687907853269984665640564039457584007913129639935 - y) / 2 ^ s else y / 2 ^ s
/-- What SignExtend comes to. -/
def sextN (k x : Nat) : Nat := if k % 115792089237316195423570985008687907853269984665640564039457584007913129639936 ≤ 30 then sarN (8 * (31 - k % 115792089237316195423570985008687907853269984665640564039457584007913129639936)) (x * 2 ^ (8 * (31 - k % 115792089237316195423570985008687907853269984665640564039457584007913129639936)) % 115792089237316195423570985008687907853269984665640564039457584007913129639936) else x
end Go.Proofs.Ytfgefifplmhopaa
namespace Go.Proofs.Ytfgefifplmhopaa
open Go.RowKit

theorem hfz4e (W : World) (o : Obj) {B : Nat} (h : Free4 B W) (hB : B < W.heap.size) : Free4 B (W.alloc o) :=
  ⟨(World.frozen?_alloc_old _ _ _ (Nat.ne_of_lt hB)).trans h.1, (World.frozen?_alloc_old _ _ _ (Nat.ne_of_lt hB)).trans h.2.1, (World.frozen?_alloc_old _ _ _ (Nat.ne_of_lt hB)).trans h.2.2.1, (World.frozen?_alloc_old _ _ _ (Nat.ne_of_lt hB)).trans h.2.2.2⟩

/-- The blocks of a call of Exp: the base, the exponent, the result, the power so far. -/
def ExB (w : World) (B : Nat) (a0 a1 a2 a3 b0 b1 b2 b3 p0 p1 p2 p3 : Nat) (wx : World) : Prop :=
  Below w.heap.size w wx ∧ B < wx.heap.size ∧ w.heap.size + 1 + 1 < B ∧ Holds4 (w.heap.size) (.int .u64 a0) (.int .u64 a1) (.int .u64 a2) (.int .u64 a3) wx ∧ Holds4 (w.heap.size + 1) (.int .u64 b0) (.int .u64 b1) (.int .u64 b2) (.int .u64 b3) wx ∧ Holds4 (B) (.int .u64 p0) (.int .u64 p1) (.int .u64 p2) (.int .u64 p3) wx ∧ Free4 B wx ∧ Holds4 ((w.heap.size + 1 + 1)) (.int .u64 0) (.int .u64 0) (.int .u64 0) (.int .u64 0) wx ∧ Free4 (w.heap.size + 1 + 1) wx
theorem ExB.below {w wx w' : World} {B a0 a1 a2 a3 b0 b1 b2 b3 p0 p1 p2 p3 : Nat} (h : ExB w B a0 a1 a2 a3 b0 b1 b2 b3 p0 p1 p2 p3 wx) (hb : Below wx.heap.size wx w') : ExB w B a0 a1 a2 a3 b0 b1 b2 b3 p0 p1 p2 p3 w' := by
  obtain ⟨h1, h2, h3, h4, h5, h6, h7, h8, h9⟩ := h
  exact ⟨h1.trans (hb.mono h1.size), Nat.lt_of_lt_of_le h2 hb.size, h3, h4.below hb (by omega), h5.below hb (by omega), h6.below hb h2, h7.below hb h2, h8.below hb (by omega), h9.below hb (by omega)⟩
theorem ExB.set {w wx : World} {B a0 a1 a2 a3 b0 b1 b2 b3 p0 p1 p2 p3 : Nat} (h : ExB w B a0 a1 a2 a3 b0 b1 b2 b3 p0 p1 p2 p3 wx) (q0 q1 q2 q3 : Nat) :
    ExB w B a0 a1 a2 a3 b0 b1 b2 b3 q0 q1 q2 q3 ((((wx.setCell ⟨B, 0, none⟩ (.int .u64 q0)).setCell ⟨B, 1, none⟩ (.int .u64 q1)).setCell ⟨B, 2, none⟩ (.int .u64 q2)).setCell ⟨B, 3, none⟩ (.int .u64 q3)) := by
  obtain ⟨h1, h2, h3, ⟨a0', a1', a2', a3'⟩, ⟨b0', b1', b2', b3'⟩, ⟨p0', p1', p2', p3'⟩, ⟨f0, f1, f2, f3⟩, ⟨z0, z1, z2, z3⟩, ⟨g0, g1, g2, g3⟩⟩ := h
  have n1 : w.heap.size ≠ B := by omega
  have n2 : w.heap.size + 1 ≠ B := by omega
  have n3 : w.heap.size + 1 + 1 ≠ B := by omega
  have far : ∀ (k i : Nat) (v : Value) (j : Nat) (u : Value) (W : World), k ≠ B → W.cell? ⟨k, i, none⟩ = some v → (W.setCell ⟨B, j, none⟩ u).cell? ⟨k, i, none⟩ = some v := fun k i v j u W hne hc =>
    (World.cell?_setCell_other _ _ _ _ (by intro e; injection e with e _; exact hne e.symm)).trans hc
  have far4 : ∀ (k i : Nat) (v : Value), k ≠ B → wx.cell? ⟨k, i, none⟩ = some v → ((((wx.setCell ⟨B, 0, none⟩ (.int .u64 q0)).setCell ⟨B, 1, none⟩ (.int .u64 q1)).setCell ⟨B, 2, none⟩ (.int .u64 q2)).setCell ⟨B, 3, none⟩ (.int .u64 q3)).cell? ⟨k, i, none⟩ = some v := fun k i v hne hc =>
    far _ _ _ _ _ _ hne (far _ _ _ _ _ _ hne (far _ _ _ _ _ _ hne (far _ _ _ _ _ _ hne hc)))
  refine ⟨by go_grown, by simpa using h2, h3, ⟨far4 _ _ _ n1 a0', far4 _ _ _ n1 a1', far4 _ _ _ n1 a2', far4 _ _ _ n1 a3'⟩, ⟨far4 _ _ _ n2 b0', far4 _ _ _ n2 b1', far4 _ _ _ n2 b2', far4 _ _ _ n2 b3'⟩, ⟨by go_cell, by go_cell, by go_cell, by go_cell⟩, ⟨?_, ?_, ?_, ?_⟩, ⟨far4 _ _ _ n3 z0, far4 _ _ _ n3 z1, far4 _ _ _ n3 z2, far4 _ _ _ n3 z3⟩, ?_, ?_, ?_, ?_⟩ <;> simp [World.frozen?_setCell, *]

-- WHAT Len COMES TO: enough bits.
theorem len_any (y : Nat) (w : World) : Calls Try.prog 57 #[wv y] w fun e w' => ∃ L : Nat, e = .returned (.int .i64 L) ∧ y % 115792089237316195423570985008687907853269984665640564039457584007913129639936 < 2 ^ L ∧ L ≤ 256 ∧ Below w.heap.size w w' := by
  obtain ⟨a0, a1, a2, a3, u0, u1, u2, u3, ea, na⟩ := wv_parts y
  rw [ea, ← na]
  have up : ∀ a : Nat, a < 18446744073709551616 → a ≠ 0 → a < 2 ^ Lib.bitLen a ∧ Lib.bitLen a ≤ 64 := fun a h h0 => by
    obtain ⟨-, h2, h3⟩ := bitLen_bounds a h h0
    refine ⟨h3, ?_⟩
    have h5 : ¬ 65 ≤ Lib.bitLen a := fun h => by
      have := Nat.pow_le_pow_right (n := 2) (by omega) (show 64 ≤ Lib.bitLen a - 1 by omega)
      omega
    omega
  by_cases h3 : a3 = 0
  · subst h3
    by_cases h2 : a2 = 0
    · subst h2
      by_cases h1 : a1 = 0
      · subst h1
        by_cases h0 : a0 = 0
        · subst h0
          exact (len_0 w).mono fun e w' ⟨he, hb⟩ => ⟨0, he, by decide, by omega, hb⟩
        · obtain ⟨l1, l2⟩ := up a0 u0 h0
          exact (len_1 a0 (by rw [bne_iff_ne]; omega) (by omega) w).mono fun e w' ⟨he, hb⟩ => ⟨Lib.bitLen a0, he, by unfold n4; omega, by omega, hb⟩
      · obtain ⟨l1, l2⟩ := up a1 u1 h1
        refine (len_2 a0 a1 (by rw [bne_iff_ne]; omega) (by omega) w).mono fun e w' ⟨he, hb⟩ => ⟨64 + Lib.bitLen a1, by rw [he]; simp, ?_, by omega, hb⟩
        rw [Nat.pow_add, show (2 : Nat) ^ 64 = 18446744073709551616 by rfl]; unfold n4; omega
    · obtain ⟨l1, l2⟩ := up a2 u2 h2
      refine (len_3 a0 a1 a2 (by rw [bne_iff_ne]; omega) (by omega) w).mono fun e w' ⟨he, hb⟩ => ⟨128 + Lib.bitLen a2, by rw [he]; simp, ?_, by omega, hb⟩
      rw [Nat.pow_add, show (2 : Nat) ^ 128 = 340282366920938463463374607431768211456 by rfl]; unfold n4; omega
  · obtain ⟨l1, l2⟩ := up a3 u3 h3
    refine (len_4 a0 a1 a2 a3 (by rw [bne_iff_ne]; omega) (by omega) w).mono fun e w' ⟨he, hb⟩ => ⟨192 + Lib.bitLen a3, by rw [he]; simp, ?_, by omega, hb⟩
    rw [Nat.pow_add, show (2 : Nat) ^ 192 = 6277101735386680763835789423207666416102355444464034512896 by rfl]; unfold n4; omega

end Go.Proofs.Ytfgefifplmhopaa
namespace Go.Proofs.Ytfgefifplmhopaa
open Go.RowKit

/-- The number of n bits, and its parts. -/
def vb (b : Nat → Nat) : Nat → Nat
  | 0 => 0
  | n + 1 => vb b n + 2 ^ n * b n
def bpt (b : Nat → Nat) (p : Nat) : Nat → Nat
  | 0 => 0
  | k + 1 => bpt b p k + if k / 64 = p then b k * 2 ^ (k % 64) else 0
def mb (p k : Nat) : Nat := min 64 (k - 64 * p)
theorem bpt_lt {b : Nat → Nat} (p : Nat) : ∀ k, (∀ j, j < k → b j < 2) → bpt b p k < 2 ^ mb p k
  | 0, _ => by simp [bpt, Nat.two_pow_pos]
  | k + 1, h => by
    have ih := bpt_lt p k (fun j hj => h j (by omega))
    have hd := h k (by omega)
    unfold bpt
    by_cases e : k / 64 = p
    · rw [if_pos e]
      have m0 : mb p k = k % 64 := by unfold mb; omega
      have m1 : mb p (k + 1) = k % 64 + 1 := by unfold mb; omega
      rw [m0] at ih
      rw [m1, Nat.pow_succ]
      have h2 : b k * 2 ^ (k % 64) ≤ 1 * 2 ^ (k % 64) := Nat.mul_le_mul_right _ (by omega)
      omega
    · rw [if_neg e, Nat.add_zero]
      exact Nat.lt_of_lt_of_le ih (Nat.pow_le_pow_right (by omega) (by unfold mb; omega))
theorem bpt_64 {b : Nat → Nat} (p k : Nat) (h : ∀ j, j < k → b j < 2) : bpt b p k < 18446744073709551616 := by
  refine Nat.lt_of_lt_of_le (bpt_lt p k h) ?_
  have e : 18446744073709551616 = 2 ^ 64 := by rfl
  rw [e]
  exact Nat.pow_le_pow_right (by omega) (by unfold mb; omega)
theorem blow {b : Nat → Nat} {k p s : Nat} (hp : k / 64 = p) (hs : k % 64 = s) (h : ∀ j, j < k → b j < 2) : bpt b p k < 2 ^ s := by
  have := bpt_lt (b := b) p k h
  rwa [show mb p k = k % 64 by unfold mb; omega, hs] at this
theorem bpt_n4 {b : Nat → Nat} : ∀ k, k ≤ 256 → n4 (bpt b 0 k) (bpt b 1 k) (bpt b 2 k) (bpt b 3 k) = vb b k
  | 0, _ => rfl
  | k + 1, h => by
    have ih := bpt_n4 (b := b) k (by omega)
    have e : 2 ^ k * b k = 2 ^ (64 * (k / 64)) * (b k * 2 ^ (k % 64)) := by
      rw [← Nat.mul_assoc, Nat.mul_comm (2 ^ (64 * (k / 64))), Nat.mul_assoc, ← Nat.pow_add, show 64 * (k / 64) + k % 64 = k by omega, Nat.mul_comm]
    simp only [bpt, vb]
    rw [e, ← ih]
    generalize b k * 2 ^ (k % 64) = y
    have c : k / 64 = 0 ∨ k / 64 = 1 ∨ k / 64 = 2 ∨ k / 64 = 3 := by omega
    rcases c with c | c | c | c
    · rw [c, show (2 : Nat) ^ (64 * 0) = 1 by rfl]; simp only [n4]; simp; omega
    · rw [c, show (2 : Nat) ^ (64 * 1) = 18446744073709551616 by rfl]; simp only [n4]; simp; omega
    · rw [c, show (2 : Nat) ^ (64 * 2) = 340282366920938463463374607431768211456 by rfl]; simp only [n4]; simp; omega
    · rw [c, show (2 : Nat) ^ (64 * 3) = 6277101735386680763835789423207666416102355444464034512896 by rfl]; simp only [n4]; simp; omega
theorem or_bit (x y s : Nat) (hx : x < 2 ^ s) (hy : y < 2) (hs : s ≤ 63) : bits .or .u64 (x : Int) (IntKind.u64.wrap ((y : Int) * 2 ^ s)) = ((x + y * 2 ^ s : Nat) : Int) := by
  have h1 : 2 ^ s ≤ 2 ^ 63 := Nat.pow_le_pow_right (by omega) hs
  have h2 : y * 2 ^ s ≤ 1 * 2 ^ 63 := Nat.mul_le_mul (by omega) h1
  have h3 : y * 2 ^ s < 18446744073709551616 := by omega
  have e : IntKind.u64.wrap ((y : Int) * 2 ^ s) = ((y * 2 ^ s : Nat) : Int) := by
    rw [IntKind.wrap_u64]
    have e0 : (y : Int) * 2 ^ s = ((y * 2 ^ s : Nat) : Int) := by simp
    rw [e0]
    omega
  rw [e, bits_or_u64_nat x (y * 2 ^ s) (by omega) h3]
  have := Nat.two_pow_add_eq_or_of_lt hx y
  rw [Nat.or_comm, Nat.mul_comm y, ← this, Nat.add_comm]

def rb4 (b : Nat → Nat) (k : Nat) : Array Value := #[.int .u64 (bpt b 0 k : Nat), .int .u64 (bpt b 1 k : Nat), .int .u64 (bpt b 2 k : Nat), .int .u64 (bpt b 3 k : Nat)]
theorem rb4_size (b : Nat → Nat) (k : Nat) : (rb4 b k).size = 4 := rfl
theorem rb4_at (b : Nat → Nat) (k p : Nat) (h : p < 4) : (rb4 b k)[p]? = some (.int .u64 (bpt b p k : Nat)) := by
  have c : p = 0 ∨ p = 1 ∨ p = 2 ∨ p = 3 := by omega
  rcases c with rfl | rfl | rfl | rfl <;> rfl
theorem rb4_one (b : Nat → Nat) (k : Nat) : (rb4 b k).all (·.oneCell') = true := by
  simp [rb4, Value.oneCell']
theorem rb4_set (b : Nat → Nat) (k p s : Nat) (hk : k < 256) (hp : k / 64 = p) (hs : k % 64 = s) : (rb4 b k).setIfInBounds p (.int .u64 ((bpt b p k + b k * 2 ^ s : Nat) : Int)) = rb4 b (k + 1) := by
  have c : p = 0 ∨ p = 1 ∨ p = 2 ∨ p = 3 := by omega
  subst hs
  rcases c with rfl | rfl | rfl | rfl <;> simp [rb4, bpt, hp]
theorem rb4_wv (b : Nat → Nat) (h : ∀ j, j < 256 → b j < 2) : Value.agg (rb4 b 256) = wv (vb b 256) := by
  rw [← bpt_n4 256 (Nat.le_refl _), wv_n4 (bpt_64 _ _ h) (bpt_64 _ _ h) (bpt_64 _ _ h) (bpt_64 _ _ h)]
  rfl

/-- The bit that pick lays at i. -/
def pbit (x : Nat) (sh : Int) (fill i : Nat) : Nat := if 0 ≤ (i : Int) + sh ∧ (i : Int) + sh < 256 then x % 115792089237316195423570985008687907853269984665640564039457584007913129639936 / 2 ^ ((i : Int) + sh).toNat % 2 else fill
theorem pbit_lt (x : Nat) (sh : Int) (fill i : Nat) (hf : fill < 2) : pbit x sh fill i < 2 := by
  unfold pbit; split <;> omega

end Go.Proofs.Ytfgefifplmhopaa
namespace Go.Proofs.Ytfgefifplmhopaa
open Go.RowKit

theorem vb_mod (Y : Nat) (b : Nat → Nat) : ∀ n, (∀ i, i < n → b i = Y / 2 ^ i % 2) → vb b n = Y % 2 ^ n
  | 0, _ => by simp [vb, Nat.mod_one]
  | n + 1, h => by
    simp only [vb]
    rw [vb_mod Y b n (fun i hi => h i (by omega)), h n (by omega), Nat.pow_succ, Nat.mod_mul]
/-- Shifts up, bit by bit. -/
theorem vb_shl (x n : Nat) : wv (vb (pbit x (-(n : Int)) 0) 256) = wv (x * 2 ^ n) := by
  rw [vb_mod (x % 115792089237316195423570985008687907853269984665640564039457584007913129639936 * 2 ^ n) _ 256 (fun i hi => ?_)]
  · apply wv_congr
    rw [show (2 : Nat) ^ 256 = 115792089237316195423570985008687907853269984665640564039457584007913129639936 by rfl, Nat.mod_mod, Nat.mod_mul_mod]
  · unfold pbit
    by_cases h : n ≤ i
    · rw [if_pos (by omega), show ((i : Int) + -(n : Int)).toNat = i - n by omega]
      have e : 2 ^ i = 2 ^ n * 2 ^ (i - n) := by rw [← Nat.pow_add, show n + (i - n) = i by omega]
      rw [e, ← Nat.div_div_eq_div_mul, Nat.mul_div_cancel _ (Nat.two_pow_pos n)]
    · rw [if_neg (by omega)]
      have e : 2 ^ n = 2 ^ i * (2 * 2 ^ (n - i - 1)) := by rw [← Nat.pow_succ', ← Nat.pow_add, show i + (n - i - 1 + 1) = n by omega]
      rw [e, ← Nat.mul_assoc, Nat.mul_comm (x % 115792089237316195423570985008687907853269984665640564039457584007913129639936), Nat.mul_assoc, Nat.mul_div_cancel_left _ (Nat.two_pow_pos i), ← Nat.mul_assoc, Nat.mul_comm _ 2, Nat.mul_assoc, Nat.mul_mod_right]
/-- Shifts down, bit by bit. -/
theorem vb_shr (x n : Nat) : wv (vb (pbit x (n : Int) 0) 256) = wv (x % 115792089237316195423570985008687907853269984665640564039457584007913129639936 / 2 ^ n) := by
  rw [vb_mod (x % 115792089237316195423570985008687907853269984665640564039457584007913129639936 / 2 ^ n) _ 256 (fun i hi => ?_)]
  · apply wv_congr
    rw [show (2 : Nat) ^ 256 = 115792089237316195423570985008687907853269984665640564039457584007913129639936 by rfl, Nat.mod_mod]
  · unfold pbit
    rw [Nat.div_div_eq_div_mul, ← Nat.pow_add, Nat.add_comm n i]
    by_cases h : i + n < 256
    · rw [if_pos (by omega), show ((i : Int) + (n : Int)).toNat = i + n by omega]
    · rw [if_neg (by omega)]
      have h1 : x % 115792089237316195423570985008687907853269984665640564039457584007913129639936 < 2 ^ (i + n) := Nat.lt_of_lt_of_le (Nat.mod_lt _ (by omega)) (show 115792089237316195423570985008687907853269984665640564039457584007913129639936 ≤ 2 ^ (i + n) from Nat.le_trans (show 115792089237316195423570985008687907853269984665640564039457584007913129639936 ≤ 2 ^ 256 by decide) (Nat.pow_le_pow_right (by omega) (by omega)))
      rw [Nat.div_eq_of_lt h1]
theorem bit_test (y i : Nat) : y / 2 ^ i % 2 = if y.testBit i then 1 else 0 := by
  rw [Nat.testBit_eq_decide_div_mod_eq]
  by_cases h : y / 2 ^ i % 2 = 1
  · rw [h]; rfl
  · rw [decide_eq_false h]; simp; omega
/-- Shifts down of signed ones, bit by bit. -/
theorem vb_sar (x n : Nat) : wv (vb (pbit x (n : Int) (x % 115792089237316195423570985008687907853269984665640564039457584007913129639936 / 57896044618658097711785492504343953926634992332820282019728792003956564819968)) 256) = wv (sarN n (x % 115792089237316195423570985008687907853269984665640564039457584007913129639936)) := by
  have hX : x % 115792089237316195423570985008687907853269984665640564039457584007913129639936 < 115792089237316195423570985008687907853269984665640564039457584007913129639936 := Nat.mod_lt _ (by omega)
  unfold sarN
  by_cases h : 57896044618658097711785492504343953926634992332820282019728792003956564819968 ≤ x % 115792089237316195423570985008687907853269984665640564039457584007913129639936
  · rw [if_pos h, show x % 115792089237316195423570985008687907853269984665640564039457584007913129639936 / 57896044618658097711785492504343953926634992332820282019728792003956564819968 = 1 by omega]
    rw [vb_mod (115792089237316195423570985008687907853269984665640564039457584007913129639935 - (115792089237316195423570985008687907853269984665640564039457584007913129639935 - x % 115792089237316195423570985008687907853269984665640564039457584007913129639936) / 2 ^ n) _ 256 (fun i hi => ?_)]
    · apply wv_congr
      rw [show (2 : Nat) ^ 256 = 115792089237316195423570985008687907853269984665640564039457584007913129639936 by rfl, Nat.mod_mod]
    · unfold pbit
      generalize x % 115792089237316195423570985008687907853269984665640564039457584007913129639936 = X at *
      have hd : (115792089237316195423570985008687907853269984665640564039457584007913129639935 - X) / 2 ^ n ≤ 115792089237316195423570985008687907853269984665640564039457584007913129639935 - X := Nat.div_le_self _ _
      have e1 : 115792089237316195423570985008687907853269984665640564039457584007913129639935 - (115792089237316195423570985008687907853269984665640564039457584007913129639935 - X) / 2 ^ n = 2 ^ 256 - ((115792089237316195423570985008687907853269984665640564039457584007913129639935 - X) / 2 ^ n + 1) := by rw [show (2 : Nat) ^ 256 = 115792089237316195423570985008687907853269984665640564039457584007913129639936 by rfl]; omega
      rw [bit_test _ i, e1, Nat.testBit_two_pow_sub_succ (by rw [show (2 : Nat) ^ 256 = 115792089237316195423570985008687907853269984665640564039457584007913129639936 by rfl]; omega)]
      have e2 : 115792089237316195423570985008687907853269984665640564039457584007913129639935 - X = 2 ^ 256 - (X + 1) := by rw [show (2 : Nat) ^ 256 = 115792089237316195423570985008687907853269984665640564039457584007913129639936 by rfl]; omega
      rw [Nat.testBit_div_two_pow, e2, Nat.testBit_two_pow_sub_succ (by rw [show (2 : Nat) ^ 256 = 115792089237316195423570985008687907853269984665640564039457584007913129639936 by rfl]; omega)]
      by_cases l : i + n < 256
      · rw [if_pos (by omega), show ((i : Int) + (n : Int)).toNat = i + n by omega, bit_test]
        simp [hi, l]
      · rw [if_neg (by omega)]
        simp [hi, l]
  · rw [if_neg h, show x % 115792089237316195423570985008687907853269984665640564039457584007913129639936 / 57896044618658097711785492504343953926634992332820282019728792003956564819968 = 0 by omega]
    exact vb_shr x n

theorem un_negi (n : Nat) (h : n ≤ 256) (w : World) : (Op.unary UnOp.neg (.int .i64 n)).run Try.prog w = .ok (.int .i64 (-(n : Int))) w := by
  have e : IntKind.i64.wrap (-(n : Int)) = -(n : Int) := IntWalk.i64_in _ (by omega)
  go_simp

end Go.Proofs.Ytfgefifplmhopaa
namespace Go.Proofs.Ytfgefifplmhopaa
open Go.RowKit

theorem at3 (g : Nat) (w : World) : (Instr.indexAt 24 (.pointer (some ⟨g, 0, none⟩)) (.int .i64 3)).run Try.prog w = .ok (.pointer (some ⟨g, 3, none⟩)) w := by
  go_simp
theorem load_cell (g j y : Nat) (w : World) (h : w.cell? ⟨g, j, none⟩ = some (.int .u64 y)) : (Instr.loadAt 22 (.pointer (some ⟨g, j, none⟩))).run Try.prog w = .ok (.int .u64 y) w := by
  go_simp
theorem shr63 (y : Nat) (_h : y < 18446744073709551616) (w : World) : (binOp BinOp.shr 22 (.int .u64 y) (.int .u64 63)).run Try.prog w = .ok (.int .u64 ((y / 9223372036854775808 : Nat) : Int)) w := by
  go_simp
theorem shrg (y : Nat) (o1 o2 : Operand) (w : World) : (eqGuard BinOp.shr 22 o1 o2 (.int .u64 y) (.int .u64 63)).run Try.prog w = .ok () w := by kernel_rfl
theorem top_of (x : Nat) : pN x 3 / 9223372036854775808 = x % 115792089237316195423570985008687907853269984665640564039457584007913129639936 / 57896044618658097711785492504343953926634992332820282019728792003956564819968 := by unfold pN; omega

/-- How many bits the lowest k bits have. -/
def bl (x : Nat) : Nat → Nat
  | 0 => 0
  | k + 1 => if x % 115792089237316195423570985008687907853269984665640564039457584007913129639936 / 2 ^ k % 2 = 1 then k + 1 else bl x k
theorem bl_le (x : Nat) : ∀ k, bl x k ≤ k
  | 0 => Nat.le_refl _
  | k + 1 => by have := bl_le x k; unfold bl; split <;> omega
theorem bl_spec (x : Nat) : ∀ k, x % 115792089237316195423570985008687907853269984665640564039457584007913129639936 % 2 ^ k < 2 ^ bl x k ∧ (bl x k = 0 ∨ 2 ^ (bl x k - 1) ≤ x % 115792089237316195423570985008687907853269984665640564039457584007913129639936 % 2 ^ k)
  | 0 => by simp [bl, Nat.mod_one]
  | k + 1 => by
    obtain ⟨h1, h2⟩ := bl_spec x k
    have e : x % 115792089237316195423570985008687907853269984665640564039457584007913129639936 % 2 ^ (k + 1) = x % 115792089237316195423570985008687907853269984665640564039457584007913129639936 % 2 ^ k + 2 ^ k * (x % 115792089237316195423570985008687907853269984665640564039457584007913129639936 / 2 ^ k % 2) := by rw [Nat.pow_succ, Nat.mod_mul]
    have hm : x % 115792089237316195423570985008687907853269984665640564039457584007913129639936 % 2 ^ k < 2 ^ k := Nat.mod_lt _ (Nat.two_pow_pos k)
    rw [e]
    unfold bl
    by_cases hb : x % 115792089237316195423570985008687907853269984665640564039457584007913129639936 / 2 ^ k % 2 = 1
    · rw [if_pos hb, hb, Nat.pow_succ, Nat.add_sub_cancel]
      exact ⟨by omega, .inr (by omega)⟩
    · rw [if_neg hb, show x % 115792089237316195423570985008687907853269984665640564039457584007913129639936 / 2 ^ k % 2 = 0 by omega, Nat.mul_zero, Nat.add_zero]
      exact ⟨h1, h2⟩
theorem len_uniq {X a b : Nat} (h1 : X < 2 ^ a) (h2 : a = 0 ∨ 2 ^ (a - 1) ≤ X) (h3 : X < 2 ^ b) (h4 : b = 0 ∨ 2 ^ (b - 1) ≤ X) : a = b := by
  rcases Nat.lt_trichotomy a b with h | h | h
  · rcases h4 with h4 | h4
    · omega
    · have := Nat.pow_le_pow_right (n := 2) (by omega) (show a ≤ b - 1 by omega)
      omega
  · exact h
  · rcases h2 with h2 | h2
    · omega
    · have := Nat.pow_le_pow_right (n := 2) (by omega) (show b ≤ a - 1 by omega)
      omega

-- WHAT Len COMES TO: just as many bits.
theorem len_exact (y : Nat) (w : World) : Calls Try.prog 57 #[wv y] w fun e w' => e = .returned (.int .i64 (bl y 256 : Nat)) ∧ Below w.heap.size w w' := by
  obtain ⟨a0, a1, a2, a3, u0, u1, u2, u3, ea, na⟩ := wv_parts y
  obtain ⟨s1, s2⟩ := bl_spec y 256
  rw [show (2 : Nat) ^ 256 = 115792089237316195423570985008687907853269984665640564039457584007913129639936 by rfl, Nat.mod_mod, ← na] at s1 s2
  generalize bl y 256 = B at *
  rw [ea]
  clear ea na
  by_cases h3 : a3 = 0
  · subst h3
    by_cases h2 : a2 = 0
    · subst h2
      by_cases h1 : a1 = 0
      · subst h1
        by_cases h0 : a0 = 0
        · subst h0
          have e : B = 0 := len_uniq s1 s2 (by decide) (.inl rfl)
          rw [e]
          exact len_0 w
        · obtain ⟨l0, l1, l2⟩ := bitLen_bounds a0 u0 h0
          have e : B = Lib.bitLen a0 := len_uniq s1 s2 (by unfold n4; omega) (.inr (by unfold n4; omega))
          rw [e]
          exact len_1 a0 (by rw [bne_iff_ne]; omega) (by omega) w
      · obtain ⟨l0, l1, l2⟩ := bitLen_bounds a1 u1 h1
        have e : B = 64 + Lib.bitLen a1 := len_uniq s1 s2 (by rw [Nat.pow_add, show (2 : Nat) ^ 64 = 18446744073709551616 by rfl]; unfold n4; omega) (.inr (by rw [show 64 + Lib.bitLen a1 - 1 = 64 + (Lib.bitLen a1 - 1) by omega, Nat.pow_add, show (2 : Nat) ^ 64 = 18446744073709551616 by rfl]; unfold n4; omega))
        rw [e, show ((64 + Lib.bitLen a1 : Nat) : Int) = 64 + (Lib.bitLen a1 : Nat) by simp]
        exact len_2 a0 a1 (by rw [bne_iff_ne]; omega) (by omega) w
    · obtain ⟨l0, l1, l2⟩ := bitLen_bounds a2 u2 h2
      have e : B = 128 + Lib.bitLen a2 := len_uniq s1 s2 (by rw [Nat.pow_add, show (2 : Nat) ^ 128 = 340282366920938463463374607431768211456 by rfl]; unfold n4; omega) (.inr (by rw [show 128 + Lib.bitLen a2 - 1 = 128 + (Lib.bitLen a2 - 1) by omega, Nat.pow_add, show (2 : Nat) ^ 128 = 340282366920938463463374607431768211456 by rfl]; unfold n4; omega))
      rw [e, show ((128 + Lib.bitLen a2 : Nat) : Int) = 128 + (Lib.bitLen a2 : Nat) by simp]
      exact len_3 a0 a1 a2 (by rw [bne_iff_ne]; omega) (by omega) w
  · obtain ⟨l0, l1, l2⟩ := bitLen_bounds a3 u3 h3
    have e : B = 192 + Lib.bitLen a3 := len_uniq s1 s2 (by rw [Nat.pow_add, show (2 : Nat) ^ 192 = 6277101735386680763835789423207666416102355444464034512896 by rfl]; unfold n4; omega) (.inr (by rw [show 192 + Lib.bitLen a3 - 1 = 192 + (Lib.bitLen a3 - 1) by omega, Nat.pow_add, show (2 : Nat) ^ 192 = 6277101735386680763835789423207666416102355444464034512896 by rfl]; unfold n4; omega))
    rw [e, show ((192 + Lib.bitLen a3 : Nat) : Int) = 192 + (Lib.bitLen a3 : Nat) by simp]
    exact len_4 a0 a1 a2 a3 (by rw [bne_iff_ne]; omega) (by omega) w
end Go.Proofs.Ytfgefifplmhopaa
namespace Go.Proofs.Ytfgefifplmhopaa
open Go.RowKit

theorem big_nought {y n : Nat} (hy : y < 115792089237316195423570985008687907853269984665640564039457584007913129639936) (hn : 256 ≤ n) : y / 2 ^ n = 0 := by
  refine Nat.div_eq_of_lt (Nat.lt_of_lt_of_le hy ?_)
  rw [show 115792089237316195423570985008687907853269984665640564039457584007913129639936 = 2 ^ 256 by rfl]
  exact Nat.pow_le_pow_right (by omega) hn
theorem min_div {y n : Nat} (hy : y < 115792089237316195423570985008687907853269984665640564039457584007913129639936) : y / 2 ^ min n 256 = y / 2 ^ n := by
  by_cases h : n ≤ 256
  · rw [Nat.min_eq_left h]
  · rw [Nat.min_eq_right (by omega), big_nought hy (Nat.le_refl _), big_nought hy (by omega)]
theorem min_mul (x n : Nat) : wv (x * 2 ^ min n 256) = wv (x * 2 ^ n) := by
  by_cases h : n ≤ 256
  · rw [Nat.min_eq_left h]
  · rw [Nat.min_eq_right (by omega)]
    apply wv_congr
    obtain ⟨m, rfl⟩ : ∃ m, n = 256 + m := ⟨n - 256, by omega⟩
    rw [Nat.pow_add, show (2 : Nat) ^ 256 = 115792089237316195423570985008687907853269984665640564039457584007913129639936 by rfl, Nat.mul_mod_left, ← Nat.mul_assoc, Nat.mul_right_comm, Nat.mul_mod_left]
theorem shl_n (n x : Nat) (hn : n < 115792089237316195423570985008687907853269984665640564039457584007913129639936) (w : World) : Calls Try.prog 78 #[wv n, wv x] w fun e w' => e = .returned (wv (x * 2 ^ n)) ∧ Below w.heap.size w w' := by
  have h := shl_any n x w
  rwa [Nat.mod_eq_of_lt hn, min_mul] at h
theorem shr_n (n x : Nat) (hn : n < 115792089237316195423570985008687907853269984665640564039457584007913129639936) (w : World) : Calls Try.prog 55 #[wv n, wv x] w fun e w' => e = .returned (wv (x % 115792089237316195423570985008687907853269984665640564039457584007913129639936 / 2 ^ n)) ∧ Below w.heap.size w w' := by
  have h := shr_any n x w
  rwa [Nat.mod_eq_of_lt hn, min_div (Nat.mod_lt _ (by omega))] at h
theorem sarN_min (n y : Nat) (hy : y < 115792089237316195423570985008687907853269984665640564039457584007913129639936) : sarN (min n 256) y = sarN n y := by
  unfold sarN
  rw [min_div hy, min_div (y := 115792089237316195423570985008687907853269984665640564039457584007913129639935 - y) (by omega)]
theorem sarN_le (n y : Nat) (hy : y < 115792089237316195423570985008687907853269984665640564039457584007913129639936) : sarN n y < 115792089237316195423570985008687907853269984665640564039457584007913129639936 := by
  unfold sarN
  split
  · exact Nat.lt_of_le_of_lt (Nat.sub_le _ _) (by omega)
  · exact Nat.lt_of_le_of_lt (Nat.div_le_self _ _) hy
theorem sarN_two (j k y : Nat) (hy : y < 115792089237316195423570985008687907853269984665640564039457584007913129639936) : sarN k (sarN j y) = sarN (j + k) y := by
  unfold sarN
  by_cases h : 57896044618658097711785492504343953926634992332820282019728792003956564819968 ≤ y
  · rw [if_pos h, if_pos h]
    have h1 : (115792089237316195423570985008687907853269984665640564039457584007913129639935 - y) / 2 ^ j ≤ 115792089237316195423570985008687907853269984665640564039457584007913129639935 - y := Nat.div_le_self _ _
    rw [Nat.pow_add, ← Nat.div_div_eq_div_mul]
    generalize (115792089237316195423570985008687907853269984665640564039457584007913129639935 - y) / 2 ^ j = d at *
    rw [if_pos (by omega), show 115792089237316195423570985008687907853269984665640564039457584007913129639935 - (115792089237316195423570985008687907853269984665640564039457584007913129639935 - d) = d by omega]
  · rw [if_neg h, if_neg h]
    have h1 : y / 2 ^ j ≤ y := Nat.div_le_self _ _
    rw [if_neg (by omega), Nat.div_div_eq_div_mul, ← Nat.pow_add]
theorem of_wv (n : Nat) (hn : n < 18446744073709551616) (w : World) : Calls Try.prog 30 #[.int .u64 n] w fun e w' => e = .returned (.agg (pw n)) ∧ Below w.heap.size w w' := by
  have h := of_walk n w
  rw [← wv_one hn, wv_pw] at h
  exact h
theorem quo_pow (x j : Nat) (hj : j < 256) : wv (quoV (x % 115792089237316195423570985008687907853269984665640564039457584007913129639936) (2 ^ j)) = wv (x % 115792089237316195423570985008687907853269984665640564039457584007913129639936 / 2 ^ j) := by
  have h1 : 2 ^ j < 115792089237316195423570985008687907853269984665640564039457584007913129639936 := by
    rw [show 115792089237316195423570985008687907853269984665640564039457584007913129639936 = 2 ^ 256 by rfl]; exact Nat.pow_lt_pow_right (by omega) hj
  have h2 := Nat.two_pow_pos j
  unfold quoV
  rw [Nat.mod_eq_of_lt h1, if_neg (by omega)]

/-- The worlds of the last statement. -/
structure CS (w : World) (D x j k : Nat) (wx : World) : Prop where
  old : Below w.heap.size w wx
  r0 : wx.heap[w.heap.size]? = some (.cells (pw x) 24 (0, 0))
  r1 : wx.heap[D]? = some (.cells (pw j) 24 (0, 0))
  r2 : wx.heap[D + 1]? = some (.cells (pw k) 24 (0, 0))
  r3 : wx.heap[D + 1 + 1]? = some (.cells (pw (j + k)) 24 (0, 0))
theorem CS.below {w wx w' : World} {D x j k : Nat} (h : CS w D x j k wx) (hb : Below wx.heap.size wx w') : CS w D x j k w' :=
  ⟨h.old.trans (hb.mono h.old.size), (hb.block _ (Array.getElem?_eq_some_iff.1 h.r0).1).trans h.r0, (hb.block _ (Array.getElem?_eq_some_iff.1 h.r1).1).trans h.r1, (hb.block _ (Array.getElem?_eq_some_iff.1 h.r2).1).trans h.r2, (hb.block _ (Array.getElem?_eq_some_iff.1 h.r3).1).trans h.r3⟩
theorem CS.drew {w wx : World} {D x j k : Nat} (h : CS w D x j k wx) : CS w D x j k wx.drew := ⟨h.old.drew, h.r0, h.r1, h.r2, h.r3⟩
theorem CS.call {w : World} {D x j k : Nat} {f : FuncId} {args : Array Value} {v : Value} (h : ∀ w, Calls Try.prog f args w fun e w' => e = .returned v ∧ Below w.heap.size w w') : ∀ wx, CS w D x j k wx → Calls Try.prog f args wx fun e w' => e = .returned v ∧ CS w D x j k w' :=
  fun wx hC => (h wx).mono fun _ _ h => ⟨h.1, hC.below h.2⟩

end Go.Proofs.Ytfgefifplmhopaa
namespace Go.Proofs.Ytfgefifplmhopaa
open Go.RowKit
theorem remV_of {x m : Nat} (h1 : 0 < m) (hm : m < 115792089237316195423570985008687907853269984665640564039457584007913129639936) : remV x m = x % m := by
  unfold remV
  rw [Nat.mod_eq_of_lt hm, if_neg (by omega)]
theorem cmp_pw (a b : Nat) (ha : a < 115792089237316195423570985008687907853269984665640564039457584007913129639936) (hb : b < 115792089237316195423570985008687907853269984665640564039457584007913129639936) (w : World) : Calls Try.prog 36 #[.agg (pw a), .agg (pw b)] w fun e w' => e = .returned (.int .i64 (ord a b)) ∧ Below w.heap.size w w' := by
  have h := cmp_any a b w
  rw [Nat.mod_eq_of_lt ha, Nat.mod_eq_of_lt hb] at h
  exact h
theorem mod_pw (a m : Nat) (ha : a < 115792089237316195423570985008687907853269984665640564039457584007913129639936) (h0 : 0 < m) (hm : m < 115792089237316195423570985008687907853269984665640564039457584007913129639936) (w : World) : Calls Try.prog 37 #[.agg (pw a), .agg (pw m)] w fun e w' => e = .returned (.agg (pw (a % m))) ∧ Below w.heap.size w w' := by
  have h := mod_any a m w
  rw [Nat.mod_eq_of_lt ha, remV_of h0 hm] at h
  exact h
theorem add_pw (a b : Nat) (w : World) : Calls Try.prog 38 #[.agg (pw a), .agg (pw b)] w fun e w' => e = .returned (.agg (pw (a + b))) ∧ Below w.heap.size w w' := add_any a b w
theorem sub_pw (a b : Nat) (hb : b < 115792089237316195423570985008687907853269984665640564039457584007913129639936) (w : World) : Calls Try.prog 48 #[.agg (pw a), .agg (pw b)] w fun e w' => e = .returned (.agg (pw (a + (115792089237316195423570985008687907853269984665640564039457584007913129639936 - b)))) ∧ Below w.heap.size w w' := by
  have h := sub_any a b w
  rw [Nat.mod_eq_of_lt hb] at h
  exact h
theorem pw_congr {x y : Nat} (h : x % 115792089237316195423570985008687907853269984665640564039457584007913129639936 = y % 115792089237316195423570985008687907853269984665640564039457584007913129639936) : pw x = pw y := by
  have := wv_congr h
  rw [wv_pw, wv_pw] at this
  injection this
theorem not_pw (a : Nat) (ha : a < 115792089237316195423570985008687907853269984665640564039457584007913129639936) (w : World) : Calls Try.prog 58 #[.agg (pw a)] w fun e w' => e = .returned (.agg (pw (115792089237316195423570985008687907853269984665640564039457584007913129639936 - 1 - a))) ∧ Below w.heap.size w w' := by
  have h := not_any a w
  rw [Nat.mod_eq_of_lt ha] at h
  exact h
theorem addmod_pw (a b m : Nat) (ha : a < 115792089237316195423570985008687907853269984665640564039457584007913129639936) (hb : b < 115792089237316195423570985008687907853269984665640564039457584007913129639936) (h0 : 0 < m) (hm : m < 115792089237316195423570985008687907853269984665640564039457584007913129639936) (w : World) : Calls Try.prog 59 #[.agg (pw a), .agg (pw b), .agg (pw m)] w fun e w' => e = .returned (.agg (pw ((a + b) % m))) ∧ Below w.heap.size w w' := by
  have h := addmod_any a b m w
  rw [Nat.mod_eq_of_lt ha, Nat.mod_eq_of_lt hb, remV_of h0 hm] at h
  exact h
theorem mulmod_pw (a b m : Nat) (ha : a < 115792089237316195423570985008687907853269984665640564039457584007913129639936) (hb : b < 115792089237316195423570985008687907853269984665640564039457584007913129639936) (h0 : 0 < m) (hm : m < 115792089237316195423570985008687907853269984665640564039457584007913129639936) (w : World) : Calls Try.prog 61 #[.agg (pw a), .agg (pw b), .agg (pw m)] w fun e w' => e = .returned (.agg (pw (a * b % m))) ∧ Below w.heap.size w w' := by
  have h := mulmod_any a b m w
  rw [Nat.mod_eq_of_lt ha, Nat.mod_eq_of_lt hb, remV_of h0 hm] at h
  exact h
theorem shr_pw (n a : Nat) (hn : n < 115792089237316195423570985008687907853269984665640564039457584007913129639936) (ha : a < 115792089237316195423570985008687907853269984665640564039457584007913129639936) (w : World) : Calls Try.prog 55 #[.agg (pw n), .agg (pw a)] w fun e w' => e = .returned (.agg (pw (a / 2 ^ n))) ∧ Below w.heap.size w w' := by
  have h := shr_n n a hn w
  rw [Nat.mod_eq_of_lt ha] at h
  exact h
theorem len_pw (a : Nat) (w : World) : Calls Try.prog 57 #[.agg (pw a)] w fun e w' => e = .returned (.int .i64 (bl a 256 : Nat)) ∧ Below w.heap.size w w' := len_exact a w
/-! Two words compared. -/
theorem eqg_pw (a b : Nat) (o1 o2 : Operand) (w : World) : (eqGuard BinOp.eql 24 o1 o2 (.agg (pw a)) (.agg (pw b))).run Try.prog w = .ok () w := by kernel_rfl
theorem neg_pw (a b : Nat) (o1 o2 : Operand) (w : World) : (eqGuard BinOp.neq 24 o1 o2 (.agg (pw a)) (.agg (pw b))).run Try.prog w = .ok () w := by kernel_rfl
end Go.Proofs.Ytfgefifplmhopaa
namespace Go.Proofs.Ytfgefifplmhopaa
open Go.RowKit
set_option maxRecDepth 100000 in
set_option maxHeartbeats 2000000 in
-- WHAT Of COMES TO.
theorem fof_any (F m a : Nat) (ha : a < 115792089237316195423570985008687907853269984665640564039457584007913129639936) (w : World) (hF : FldAt w F m) : Calls Try.prog 13 #[.pointer (some ⟨F, 0, none⟩), .agg (pw a)] w fun e w' => e = .returned (.agg (pw (a % m))) ∧ Below w.heap.size w w' := by
  have H0 := Lib.hid (CW.one hF a)
  have HCM := Lib.hid (CW.calls (w := w) (F := F) (m := m) (L := [(w.heap.size + 1, #[.int .u64 0, .int .u64 0, .int .u64 0, .int .u64 0]), (w.heap.size, pw a)]) (v := .int .i64 (ord a m)) (fun wx hf => cmp_pw a m ha hf.lt wx))
  have HMD := Lib.hid (CW.calls (w := w) (F := F) (m := m) (L := [(w.heap.size + 1, #[.int .u64 0, .int .u64 0, .int .u64 0, .int .u64 0]), (w.heap.size, pw a)]) (v := .agg (pw (a % m))) (fun wx hf => mod_pw a m ha (by have := hf.big; omega) hf.lt wx))
  have HQ := Lib.hid (show a < m → a % m = a from fun h => Nat.mod_eq_of_lt h)
  clear hF ha
  by_cases hlt : a < m
  · rw [HQ.out hlt]
    clear HMD HQ
    go_enter Try.func13, Try.ntmps13
    go_wp2_with fail
    refine wp_region_quiet (C := CW w F m [(w.heap.size + 1, #[.int .u64 0, .int .u64 0, .int .u64 0, .int .u64 0]), (w.heap.size, pw a)]) (by kernel_rfl) (by kernel_rfl) (H0.out.drew) ?_
    simp only
    with_reducible refine q_load 24 (.tmp 3) (.pointer (some ⟨w.heap.size, 0, none⟩)) (.agg (pw a)) rfl (by kernel_rfl) (by kernel_rfl) (fun _ c => ld_pw (c.is _ _ (by simp))) ?_
    with_reducible refine q_val (.pointer (some ⟨F, 0, none⟩)) (by kernel_rfl) (fun _ _ => by kernel_rfl) ?_
    with_reducible refine q_val (.pointer (some ⟨F, 0, none⟩)) (by kernel_rfl) (fun _ _ => run_nil (.tmp 6) _ rfl (by kernel_rfl)) ?_
    with_reducible refine q_sem2 (Instr.fieldAt 49 (.pointer (some ⟨F, 0, none⟩)) 0) (.pointer (some ⟨F, 0, none⟩)) (by kernel_rfl) (by kernel_rfl) (fun w' _ => fld_at F w') ?_
    with_reducible refine q_load 24 (.tmp 8) (.pointer (some ⟨F, 0, none⟩)) (.agg (pw m)) rfl (by kernel_rfl) (by kernel_rfl) (fun _ c => ld_m c.fld) ?_
    with_reducible refine q_call 36 #[.agg (pw a), .agg (pw m)] (.int .i64 (ord a m)) (by kernel_rfl) (fun _ => by kernel_rfl) (HCM.out) ?_
    with_reducible refine q_bin .lss 3 _ _ 3 (.int .i64 (ord a m)) (.int .i64 0) (.bool true) rfl (by kernel_rfl) (by kernel_rfl) (by kernel_rfl) (fun _ => by kernel_rfl) (fun w' => (lss_ord a m w').trans (by rw [decide_eq_true hlt])) ?_
    with_reducible refine wpQuiet_nil ?_
    intro wx hC
    have HC := Lib.hid hC
    clear hC H0 HCM
    simp only [Act.put, List.setIfInBounds_toArray, List.set_cons_succ, List.set_cons_zero]
    go_wp2_with (first | (refine wpList_ld rfl 24 _ rfl (.pointer (some ⟨w.heap.size, 0, none⟩)) (.agg (pw a)) rfl (ld_pw (by exact HC.out.is _ _ (by simp))) ?_) | (refine wpList_store_row rfl 24 _ _ rfl (w.heap.size + 1) (pw a) rfl rfl 24 (#[.int .u64 0, .int .u64 0, .int .u64 0, .int .u64 0]) (by exact HC.out.is _ _ (by simp)) (by rw [pw_size]; exact infoW4) (by first | rfl | (rw [pw_size]; rfl) | (rw [pw_size, pw_size])) (pw_one _) ?_))
    (try simp only [Act.put])
    refine bodyPost_ret (v := .agg (pw a)) (results_cell_row (p := 4) rfl _ _ (w.heap.size + 1) 24 (pw a) (0, 0) _ rfl (setRow_heap _ _ _ _ _ _ (by exact HC.out.is _ (#[.int .u64 0, .int .u64 0, .int .u64 0, .int .u64 0]) (by simp))) Try.underlying24 rfl (by rw [pw_size]; exact infoW4)) rfl ⟨rfl, below_setRow HC.out.old (by omega) _⟩
  · obtain ⟨y, hy⟩ : ∃ y, a % m = y := ⟨_, rfl⟩
    rw [hy] at HMD ⊢
    clear HQ hy
    go_enter Try.func13, Try.ntmps13
    go_wp2_with fail
    refine wp_region_quiet (C := CW w F m [(w.heap.size + 1, #[.int .u64 0, .int .u64 0, .int .u64 0, .int .u64 0]), (w.heap.size, pw a)]) (by kernel_rfl) (by kernel_rfl) (H0.out.drew) ?_
    simp only
    with_reducible refine q_load 24 (.tmp 3) (.pointer (some ⟨w.heap.size, 0, none⟩)) (.agg (pw a)) rfl (by kernel_rfl) (by kernel_rfl) (fun _ c => ld_pw (c.is _ _ (by simp))) ?_
    with_reducible refine q_val (.pointer (some ⟨F, 0, none⟩)) (by kernel_rfl) (fun _ _ => by kernel_rfl) ?_
    with_reducible refine q_val (.pointer (some ⟨F, 0, none⟩)) (by kernel_rfl) (fun _ _ => run_nil (.tmp 6) _ rfl (by kernel_rfl)) ?_
    with_reducible refine q_sem2 (Instr.fieldAt 49 (.pointer (some ⟨F, 0, none⟩)) 0) (.pointer (some ⟨F, 0, none⟩)) (by kernel_rfl) (by kernel_rfl) (fun w' _ => fld_at F w') ?_
    with_reducible refine q_load 24 (.tmp 8) (.pointer (some ⟨F, 0, none⟩)) (.agg (pw m)) rfl (by kernel_rfl) (by kernel_rfl) (fun _ c => ld_m c.fld) ?_
    with_reducible refine q_call 36 #[.agg (pw a), .agg (pw m)] (.int .i64 (ord a m)) (by kernel_rfl) (fun _ => by kernel_rfl) (HCM.out) ?_
    with_reducible refine q_bin .lss 3 _ _ 3 (.int .i64 (ord a m)) (.int .i64 0) (.bool false) rfl (by kernel_rfl) (by kernel_rfl) (by kernel_rfl) (fun _ => by kernel_rfl) (fun w' => (lss_ord a m w').trans (by rw [decide_eq_false hlt])) ?_
    with_reducible refine wpQuiet_nil ?_
    intro wx hC
    have HC := Lib.hid hC
    clear hC H0 HCM
    simp only [Act.put, List.setIfInBounds_toArray, List.set_cons_succ, List.set_cons_zero]
    go_wp2_with fail
    refine region_quiet_tail 6 (CW w F m [(w.heap.size + 1, #[.int .u64 0, .int .u64 0, .int .u64 0, .int .u64 0]), (w.heap.size, pw a)]) (by kernel_rfl) (by kernel_rfl) (HC.out.drew) ?_
    simp only [List.take_succ_cons, List.take_zero, List.drop_succ_cons, List.drop_zero]
    with_reducible refine q_load 24 (.tmp 3) (.pointer (some ⟨w.heap.size, 0, none⟩)) (.agg (pw a)) rfl (by kernel_rfl) (by kernel_rfl) (fun _ c => ld_pw (c.is _ _ (by simp))) ?_
    with_reducible refine q_val (.pointer (some ⟨F, 0, none⟩)) (by kernel_rfl) (fun _ _ => by kernel_rfl) ?_
    with_reducible refine q_val (.pointer (some ⟨F, 0, none⟩)) (by kernel_rfl) (fun _ _ => run_nil (.tmp 14) _ rfl (by kernel_rfl)) ?_
    with_reducible refine q_sem2 (Instr.fieldAt 49 (.pointer (some ⟨F, 0, none⟩)) 0) (.pointer (some ⟨F, 0, none⟩)) (by kernel_rfl) (by kernel_rfl) (fun w' _ => fld_at F w') ?_
    with_reducible refine q_load 24 (.tmp 16) (.pointer (some ⟨F, 0, none⟩)) (.agg (pw m)) rfl (by kernel_rfl) (by kernel_rfl) (fun _ c => ld_m c.fld) ?_
    with_reducible refine q_call 37 #[.agg (pw a), .agg (pw m)] (.agg (pw y)) (by kernel_rfl) (fun _ => by kernel_rfl) (HMD.out) ?_
    with_reducible refine wpQuiet_nil ?_
    intro wx hC
    have HC2 := Lib.hid hC
    clear hC HC HMD
    simp only [Act.put, List.setIfInBounds_toArray, List.set_cons_succ, List.set_cons_zero]
    go_wp2_with (refine wpList_store_row rfl 24 _ _ rfl (w.heap.size + 1) (pw y) rfl rfl 24 (#[.int .u64 0, .int .u64 0, .int .u64 0, .int .u64 0]) (by exact HC2.out.is _ _ (by simp)) (by rw [pw_size]; exact infoW4) (by first | rfl | (rw [pw_size]; rfl) | (rw [pw_size, pw_size])) (pw_one _) ?_)
    (try simp only [Act.put])
    refine bodyPost_ret (v := .agg (pw y)) (results_cell_row (p := 4) rfl _ _ (w.heap.size + 1) 24 (pw y) (0, 0) _ rfl (setRow_heap _ _ _ _ _ _ (by exact HC2.out.is _ (#[.int .u64 0, .int .u64 0, .int .u64 0, .int .u64 0]) (by simp))) Try.underlying24 rfl (by rw [pw_size]; exact infoW4)) rfl ⟨rfl, below_setRow HC2.out.old (by omega) _⟩
end Go.Proofs.Ytfgefifplmhopaa
namespace Go.Proofs.Ytfgefifplmhopaa
open Go.RowKit
/-- The worlds while both words are taken modulo m. -/
structure CO (w : World) (F m a b : Nat) (wx : World) : Prop where
  old : Below w.heap.size w wx
  fld : FldAt wx F m
  hF : F < w.heap.size
  r0 : ∃ x, wx.heap[w.heap.size]? = some (.cells (pw x) 24 (0, 0)) ∧ x < 115792089237316195423570985008687907853269984665640564039457584007913129639936 ∧ x % m = a % m
  r1 : ∃ x, wx.heap[w.heap.size + 1]? = some (.cells (pw x) 24 (0, 0)) ∧ x < 115792089237316195423570985008687907853269984665640564039457584007913129639936 ∧ x % m = b % m
  r2 : wx.heap[w.heap.size + 1 + 1]? = some (.cells #[.int .u64 0, .int .u64 0, .int .u64 0, .int .u64 0] 24 (0, 0))
theorem CO.below {w wx w' : World} {F m a b : Nat} (c : CO w F m a b wx) (hb : Below wx.heap.size wx w') : CO w F m a b w' := by
  obtain ⟨x, h1, h2⟩ := c.r0
  obtain ⟨y, h3, h4⟩ := c.r1
  exact ⟨c.old.trans (hb.mono c.old.size), c.fld.below hb, c.hF, ⟨x, (hb.block _ (Array.getElem?_eq_some_iff.1 h1).1).trans h1, h2⟩, ⟨y, (hb.block _ (Array.getElem?_eq_some_iff.1 h3).1).trans h3, h4⟩, (hb.block _ (Array.getElem?_eq_some_iff.1 c.r2).1).trans c.r2⟩
theorem CO.drew {w wx : World} {F m a b : Nat} (c : CO w F m a b wx) : CO w F m a b wx.drew := c.below (Below.drew (Below.refl _ _))
theorem CO.high {w wx : World} {F m a b : Nat} (c : CO w F m a b wx) : w.heap.size + 1 + 1 < wx.heap.size := (Array.getElem?_eq_some_iff.1 c.r2).1
theorem fld_row {w : World} {F m g : Nat} {cs : Array Value} (h : FldAt w F m) (hg : F ≠ g) : FldAt (w.setRow g cs) F m := ⟨(setRow_other _ _ _ _ hg).trans h.row, h.odd, h.big, h.lt⟩
theorem CO.set0 {w wx : World} {F m a b : Nat} (c : CO w F m a b wx) : CO w F m a b (wx.setRow w.heap.size (pw (a % m))) := by
  obtain ⟨x, h1, h2⟩ := c.r0
  obtain ⟨y, h3, h4⟩ := c.r1
  have hF := c.hF
  exact ⟨below_setRow c.old (Nat.le_refl _) _, fld_row c.fld (by omega), c.hF, ⟨a % m, setRow_heap _ _ _ _ _ _ h1, Nat.lt_trans (Nat.mod_lt _ (by have := c.fld.big; omega)) c.fld.lt, Nat.mod_mod _ _⟩, ⟨y, (setRow_other _ _ _ _ (by omega)).trans h3, h4⟩, (setRow_other _ _ _ _ (by omega)).trans c.r2⟩
theorem CO.set1 {w wx : World} {F m a b : Nat} (c : CO w F m a b wx) : CO w F m a b (wx.setRow (w.heap.size + 1) (pw (b % m))) := by
  obtain ⟨x, h1, h2⟩ := c.r0
  obtain ⟨y, h3, h4⟩ := c.r1
  have hF := c.hF
  exact ⟨below_setRow c.old (by omega) _, fld_row c.fld (by omega), c.hF, ⟨x, (setRow_other _ _ _ _ (by omega)).trans h1, h2⟩, ⟨b % m, setRow_heap _ _ _ _ _ _ h3, Nat.lt_trans (Nat.mod_lt _ (by have := c.fld.big; omega)) c.fld.lt, Nat.mod_mod _ _⟩, (setRow_other _ _ _ _ (by omega)).trans c.r2⟩
theorem CO.start {w : World} {F m a b : Nat} (h : FldAt w F m) (ha : a < 115792089237316195423570985008687907853269984665640564039457584007913129639936) (hb : b < 115792089237316195423570985008687907853269984665640564039457584007913129639936) : CO w F m a b (((w.alloc (.cells (pw a) 24)).alloc (.cells (pw b) 24)).alloc (.cells #[.int .u64 0, .int .u64 0, .int .u64 0, .int .u64 0] 24)) := by
  have c := CW.two h a b
  exact ⟨c.old, c.fld, c.hF, ⟨a, c.is _ _ (by simp), ha, rfl⟩, ⟨b, c.is _ _ (by simp), hb, rfl⟩, c.is _ _ (by simp)⟩
/-- Both are taken. -/
theorem CO.done {w wx : World} {F m a b : Nat} (c : CO w F m a b wx) (h0 : wx.heap[w.heap.size]? = some (.cells (pw (a % m)) 24 (0, 0))) (h1 : wx.heap[w.heap.size + 1]? = some (.cells (pw (b % m)) 24 (0, 0))) : CW w F m [(w.heap.size + 1 + 1, #[.int .u64 0, .int .u64 0, .int .u64 0, .int .u64 0]), (w.heap.size + 1, pw (b % m)), (w.heap.size, pw (a % m))] wx :=
  ⟨c.old, c.fld, c.hF, fun p hp => by
    simp only [List.mem_cons, List.not_mem_nil, or_false] at hp
    rcases hp with rfl | rfl | rfl
    · exact c.r2
    · exact h1
    · exact h0⟩
def RO (w : World) (x y : Nat) (wa wb : World) : Prop := (wa.heap[w.heap.size]? = some (.cells (pw x) 24 (0, 0)) → wb.heap[w.heap.size]? = some (.cells (pw x) 24 (0, 0))) ∧ (wa.heap[w.heap.size + 1]? = some (.cells (pw y) 24 (0, 0)) → wb.heap[w.heap.size + 1]? = some (.cells (pw y) 24 (0, 0)))
theorem RO.refl (w : World) (x y : Nat) (wa : World) : RO w x y wa wa := ⟨id, id⟩
theorem RO.of {w wa wb : World} {x y : Nat} (hb : Below wa.heap.size wa wb) : RO w x y wa wb := ⟨fun h => (hb.block _ (Array.getElem?_eq_some_iff.1 h).1).trans h, fun h => (hb.block _ (Array.getElem?_eq_some_iff.1 h).1).trans h⟩
theorem store_w {g x : Nat} {w : World} {cs : Array Value} (hs : cs.size = 4) (hg : w.heap[g]? = some (.cells cs 24 (0, 0))) : (Instr.storeAt 24 (.pointer (some ⟨g, 0, none⟩)) (.agg (pw x))).run Try.prog w = .ok () (w.setRow g (pw x)) := store_pw hs hg
/-- The sum, once less. -/
theorem add_less {m x y : Nat} (hx : x < m) (hy : y < m) (hm : m < 115792089237316195423570985008687907853269984665640564039457584007913129639936) : pw (lessV m ((x + y) % 115792089237316195423570985008687907853269984665640564039457584007913129639936) (decide ((x + y) % 115792089237316195423570985008687907853269984665640564039457584007913129639936 < x))) = pw ((x + y) % m) := by
  apply pw_congr
  unfold lessV
  rw [Nat.mod_mod]
  by_cases h : x + y < m
  · rw [Nat.mod_eq_of_lt h, Nat.mod_eq_of_lt (show x + y < 115792089237316195423570985008687907853269984665640564039457584007913129639936 by omega), if_neg (by simp; omega)]
    exact Nat.mod_eq_of_lt (by omega)
  · have e : (x + y) % m = x + y - m := by rw [Nat.mod_eq_sub_mod (by omega), Nat.mod_eq_of_lt (by omega)]
    rw [e]
    by_cases h2 : x + y < 115792089237316195423570985008687907853269984665640564039457584007913129639936
    · rw [Nat.mod_eq_of_lt h2, if_pos (by right; omega), show x + y + (115792089237316195423570985008687907853269984665640564039457584007913129639936 - m) = x + y - m + 115792089237316195423570985008687907853269984665640564039457584007913129639936 by omega, Nat.add_mod_right]
    · rw [if_pos (by left; simp; omega)]
      omega
theorem sub_less {m x y : Nat} (hx : x < m) (hy : y < m) (hm : m < 115792089237316195423570985008687907853269984665640564039457584007913129639936) : (x < y → pw ((x + (115792089237316195423570985008687907853269984665640564039457584007913129639936 - y)) % 115792089237316195423570985008687907853269984665640564039457584007913129639936 + m) = pw ((x + (m - y)) % m)) ∧ (¬ x < y → pw ((x + (115792089237316195423570985008687907853269984665640564039457584007913129639936 - y)) % 115792089237316195423570985008687907853269984665640564039457584007913129639936) = pw ((x + (m - y)) % m)) := by
  refine ⟨fun h => pw_congr ?_, fun h => pw_congr ?_⟩
  · rw [Nat.mod_eq_of_lt (show x + (m - y) < m by omega)]
    omega
  · rw [Nat.mod_eq_sub_mod (show m ≤ x + (m - y) by omega), Nat.mod_eq_of_lt (show x + (m - y) - m < m by omega)]
    omega
set_option maxRecDepth 100000 in
set_option maxHeartbeats 4000000 in
-- WHAT Add COMES TO.
theorem fadd_any (F m a b : Nat) (ha : a < 115792089237316195423570985008687907853269984665640564039457584007913129639936) (hb : b < 115792089237316195423570985008687907853269984665640564039457584007913129639936) (w : World) (hF : FldAt w F m) : Calls Try.prog 14 #[.pointer (some ⟨F, 0, none⟩), .agg (pw a), .agg (pw b)] w fun e w' => e = .returned (.agg (pw ((a + b) % m))) ∧ Below w.heap.size w w' := by
  have H0 := Lib.hid (CO.start hF ha hb)
  have hlt : ∀ z, z % m < m := fun z => Nat.mod_lt _ (by have := hF.big; omega)
  have HE := Lib.hid (add_less (hlt a) (hlt b) hF.lt)
  have HN := Lib.hid (show a % m < 115792089237316195423570985008687907853269984665640564039457584007913129639936 ∧ b % m < 115792089237316195423570985008687907853269984665640564039457584007913129639936 from ⟨Nat.lt_trans (hlt a) hF.lt, Nat.lt_trans (hlt b) hF.lt⟩)
  have HR := Lib.hid (show (a + b) % m = (a % m + b % m) % m from Nat.add_mod _ _ _)
  clear hF ha hb hlt
  go_enter Try.func14, Try.ntmps14
  go_wp2_with fail
  refine region_tie (CO w F m a b) (fun i s wx => match i with | 0 => s 8 = .pointer (some ⟨F, 0, none⟩) | 1 => ∃ x, s 9 = .agg (pw x) ∧ x < 115792089237316195423570985008687907853269984665640564039457584007913129639936 ∧ x % m = a % m | 2 => s 10 = .agg (pw (a % m)) | 3 => s 11 = .pointer (some ⟨F, 0, none⟩) | 4 => ∃ x, s 12 = .agg (pw x) ∧ x < 115792089237316195423570985008687907853269984665640564039457584007913129639936 ∧ x % m = b % m | 5 => s 13 = .agg (pw (b % m)) | 6 => wx.heap[w.heap.size]? = some (.cells (pw (a % m)) 24 (0, 0)) | 7 => wx.heap[w.heap.size + 1]? = some (.cells (pw (b % m)) 24 (0, 0)) | _ => True) (RO w (a % m) (b % m)) (fun i => match i with | 0 => [8] | 1 => [9] | 2 => [10] | 3 => [11] | 4 => [12] | 5 => [13] | 6 => [] | 7 => [] | _ => []) (fun i => i) (by kernel_rfl) (by kernel_rfl) H0.out.drew ?_ ?_ ?_ ?_
  · intro i s s' wx he hp
    match i, he, hp with
    | 0, he, hp => exact (he 8 (by simp)).symm.trans hp
    | 1, he, hp => obtain ⟨x, h1, h2⟩ := hp; exact ⟨x, (he 9 (by simp)).symm.trans h1, h2⟩
    | 2, he, hp => exact (he 10 (by simp)).symm.trans hp
    | 3, he, hp => exact (he 11 (by simp)).symm.trans hp
    | 4, he, hp => obtain ⟨x, h1, h2⟩ := hp; exact ⟨x, (he 12 (by simp)).symm.trans h1, h2⟩
    | 5, he, hp => exact (he 13 (by simp)).symm.trans hp
    | 6, he, hp => exact hp
    | 7, he, hp => exact hp
    | _ + 8, _, _ => trivial
  · intro i s wa wb hR hp
    match i, hp with
    | 0, hp => exact hp
    | 1, hp => exact hp
    | 2, hp => exact hp
    | 3, hp => exact hp
    | 4, hp => exact hp
    | 5, hp => exact hp
    | 6, hp => exact hR.1 hp
    | 7, hp => exact hR.2 hp
    | _ + 8, _ => trivial
  · refine ⟨?_, ?_, ?_, ?_, ?_, ?_, ?_, ?_, trivial⟩
    · intro a_ wx hC hsz hK
      have h0 : a_.tmps.getD 0 undef = (.pointer (some ⟨F, 0, none⟩)) := hK.1 0 (by kernel_rfl)
      exact tt_val (.pointer (some ⟨F, 0, none⟩)) (by kernel_rfl) (by rw [← h0]; kernel_rfl) hC (slots_put _ _ _ (by rw [hsz]; exact of_decide_eq_true (by kernel_rfl))) (RO.refl _ _ _ _)
    · intro a_ wx hC hsz hK
      have h0 : a_.tmps.getD 4 undef = (.pointer (some ⟨w.heap.size, 0, none⟩)) := hK.1 4 (by kernel_rfl)
      obtain ⟨x, h1, h2⟩ := hC.r0
      exact tt_load 24 (.tmp 4) (.pointer (some ⟨w.heap.size, 0, none⟩)) (.agg (pw x)) rfl (by kernel_rfl) h0 (ld_pw h1) hC ⟨x, (slots_put _ _ _ (by rw [hsz]; exact of_decide_eq_true (by kernel_rfl))), h2⟩ (RO.refl _ _ _ _)
    · intro a_ wx hC hsz hK
      have h0 : a_.tmps.getD 8 undef = (.pointer (some ⟨F, 0, none⟩)) := hK.2 ⟨0, .data⟩ (by simp) rfl _ rfl
      obtain ⟨x, h1, h2, h3⟩ := hK.2 ⟨1, .data⟩ (by simp) rfl _ rfl
      refine tt_call 13 #[a_.tmps.getD 8 undef, a_.tmps.getD 9 undef] (by kernel_rfl) (by kernel_rfl) ?_
      rw [h0, show a_.tmps.getD 9 undef = _ from h1]
      exact (fof_any F m x h2 wx hC.fld).mono fun e w' hh => ⟨.agg (pw (a % m)), by rw [hh.1, h3], hC.below hh.2, (slots_put _ _ _ (by rw [hsz]; exact of_decide_eq_true (by kernel_rfl))), RO.of hh.2⟩
    · intro a_ wx hC hsz hK
      have h0 : a_.tmps.getD 0 undef = (.pointer (some ⟨F, 0, none⟩)) := hK.1 0 (by kernel_rfl)
      exact tt_val (.pointer (some ⟨F, 0, none⟩)) (by kernel_rfl) (by rw [← h0]; kernel_rfl) hC (slots_put _ _ _ (by rw [hsz]; exact of_decide_eq_true (by kernel_rfl))) (RO.refl _ _ _ _)
    · intro a_ wx hC hsz hK
      have h0 : a_.tmps.getD 5 undef = (.pointer (some ⟨w.heap.size + 1, 0, none⟩)) := hK.1 5 (by kernel_rfl)
      obtain ⟨x, h1, h2⟩ := hC.r1
      exact tt_load 24 (.tmp 5) (.pointer (some ⟨w.heap.size + 1, 0, none⟩)) (.agg (pw x)) rfl (by kernel_rfl) h0 (ld_pw h1) hC ⟨x, (slots_put _ _ _ (by rw [hsz]; exact of_decide_eq_true (by kernel_rfl))), h2⟩ (RO.refl _ _ _ _)
    · intro a_ wx hC hsz hK
      have h0 : a_.tmps.getD 11 undef = (.pointer (some ⟨F, 0, none⟩)) := hK.2 ⟨3, .data⟩ (by simp) rfl _ rfl
      obtain ⟨x, h1, h2, h3⟩ := hK.2 ⟨4, .data⟩ (by simp) rfl _ rfl
      refine tt_call 13 #[a_.tmps.getD 11 undef, a_.tmps.getD 12 undef] (by kernel_rfl) (by kernel_rfl) ?_
      rw [h0, show a_.tmps.getD 12 undef = _ from h1]
      exact (fof_any F m x h2 wx hC.fld).mono fun e w' hh => ⟨.agg (pw (b % m)), by rw [hh.1, h3], hC.below hh.2, (slots_put _ _ _ (by rw [hsz]; exact of_decide_eq_true (by kernel_rfl))), RO.of hh.2⟩
    · intro a_ wx hC hsz hK
      have h0 : a_.tmps.getD 4 undef = (.pointer (some ⟨w.heap.size, 0, none⟩)) := hK.1 4 (by kernel_rfl)
      have h1 : a_.tmps.getD 10 undef = .agg (pw (a % m)) := hK.2 ⟨2, .data⟩ (by simp) rfl _ rfl
      obtain ⟨x, h2, h3⟩ := hC.r0
      exact tt_store (by kernel_rfl) rfl (run_st 24 (.tmp 4) (.tmp 10) _ _ rfl h0 h1 (store_w (pw_size _) h2)) hC.set0 (setRow_heap _ _ _ _ _ _ h2) ⟨fun _ => setRow_heap _ _ _ _ _ _ h2, fun h => (setRow_other _ _ _ _ (by omega)).trans h⟩
    · intro a_ wx hC hsz hK
      have h0 : a_.tmps.getD 5 undef = (.pointer (some ⟨w.heap.size + 1, 0, none⟩)) := hK.1 5 (by kernel_rfl)
      have h1 : a_.tmps.getD 13 undef = .agg (pw (b % m)) := hK.2 ⟨5, .data⟩ (by simp) rfl _ rfl
      obtain ⟨x, h2, h3⟩ := hC.r1
      exact tt_store (by kernel_rfl) rfl (run_st 24 (.tmp 5) (.tmp 13) _ _ rfl h0 h1 (store_w (pw_size _) h2)) hC.set1 (setRow_heap _ _ _ _ _ _ h2) ⟨fun h => (setRow_other _ _ _ _ (by omega)).trans h, fun _ => setRow_heap _ _ _ _ _ _ h2⟩
  intro f1 wy hCy hf
  have k0 := hf 6 _ rfl
  have k1 := hf 7 _ rfl
  have H1 := Lib.hid (hCy.done k0 k1)
  clear hf hCy k0 k1 H0
  simp only [putAll, Act.put, List.setIfInBounds_toArray, List.set_cons_succ, List.set_cons_zero]
  obtain ⟨x, hx⟩ : ∃ x, a % m = x := ⟨_, rfl⟩
  obtain ⟨y, hy⟩ : ∃ y, b % m = y := ⟨_, rfl⟩
  rw [hx, hy] at H1 HE HN HR
  clear hx hy
  go_wp2_with (first | (refine wpList_ld rfl 24 _ rfl (.pointer (some ⟨w.heap.size, 0, none⟩)) (.agg (pw x)) rfl (ld_pw (by exact H1.out.is _ _ (by simp))) ?_) | (refine wpList_ld rfl 24 _ rfl (.pointer (some ⟨w.heap.size + 1, 0, none⟩)) (.agg (pw y)) rfl (ld_pw (by exact H1.out.is _ _ (by simp))) ?_))
  refine (add_pw x y _).mono ?_
  rintro e w5 ⟨rfl, hb5⟩
  rw [show pw (x + y) = pw ((x + y) % 115792089237316195423570985008687907853269984665640564039457584007913129639936) from pw_congr (by rw [Nat.mod_mod])]
  obtain ⟨z, hz⟩ : ∃ z, (x + y) % 115792089237316195423570985008687907853269984665640564039457584007913129639936 = z := ⟨_, rfl⟩
  have HZ := Lib.hid (show z < 115792089237316195423570985008687907853269984665640564039457584007913129639936 from by rw [← hz]; exact Nat.mod_lt _ (by omega))
  rw [hz] at HE ⊢
  clear hz
  obtain ⟨g, hg⟩ : ∃ g, w5.heap.size = g := ⟨_, rfl⟩
  have H5 := Lib.hid (show CW w F m [(g, pw z), (w.heap.size + 1 + 1, #[.int .u64 0, .int .u64 0, .int .u64 0, .int .u64 0]), (w.heap.size, pw x)] ((w5.alloc (.cells #[.int .u64 0, .int .u64 0, .int .u64 0, .int .u64 0] 24)).setRow w5.heap.size (pw z)) from by
    rw [← hg]
    have c := (H1.out.below hb5).new #[.int .u64 0, .int .u64 0, .int .u64 0, .int .u64 0]
    have h9 := (H1.out.below hb5).old.size
    have h8 : w.heap.size + 1 + 1 < w5.heap.size := (Array.getElem?_eq_some_iff.1 ((H1.out.below hb5).is (w.heap.size + 1 + 1) #[.int .u64 0, .int .u64 0, .int .u64 0, .int .u64 0] (by simp))).1
    exact c.put w5.heap.size #[.int .u64 0, .int .u64 0, .int .u64 0, .int .u64 0] (pw z) _ h9 (by simp) (fun p hp => by
      simp only [List.mem_cons, List.not_mem_nil, or_false] at hp
      rcases hp with rfl | rfl
      · exact ⟨by simp, by show w.heap.size + 1 + 1 ≠ _; omega⟩
      · exact ⟨by simp, by show w.heap.size ≠ _; omega⟩))
  have HG := Lib.hid (And.intro hg (heap_alloc_new w5 (.cells #[.int .u64 0, .int .u64 0, .int .u64 0, .int .u64 0] 24)))
  clear hb5 hg
  go_wp2_with (refine wpList_store_row rfl 24 _ _ rfl w5.heap.size (pw z) rfl rfl 24 (#[.int .u64 0, .int .u64 0, .int .u64 0, .int .u64 0]) (by exact HG.out.2) (by rw [pw_size]; exact infoW4) (by rw [pw_size]; rfl) (pw_one _) ?_)
  obtain ⟨w6, hw6⟩ : ∃ w6, (w5.alloc (.cells #[.int .u64 0, .int .u64 0, .int .u64 0, .int .u64 0] 24)).setRow w5.heap.size (pw z) = w6 := ⟨_, rfl⟩
  rw [hw6] at H5 ⊢
  rw [HG.out.1]
  clear hw6 HG H1
  have HCM := Lib.hid (CW.calls (w := w) (F := F) (m := m) (L := [(g, pw z), (w.heap.size + 1 + 1, #[.int .u64 0, .int .u64 0, .int .u64 0, .int .u64 0]), (w.heap.size, pw x)]) (fun wx _ => cmp_pw z x HZ.out HN.out.1 wx))
  have HLO := Lib.hid (CW.calls (w := w) (F := F) (m := m) (L := [(g, pw z), (w.heap.size + 1 + 1, #[.int .u64 0, .int .u64 0, .int .u64 0, .int .u64 0]), (w.heap.size, pw x)]) (fun wx hf => lessOnce_any F m z (decide (z < x)) wx hf))
  rw [HE.out] at HLO
  obtain ⟨v, hv⟩ : ∃ v, (x + y) % m = v := ⟨_, rfl⟩
  rw [hv] at HLO
  have HV := Lib.hid hv
  clear hv
  refine region_quiet_tail 7 (CW w F m [(g, pw z), (w.heap.size + 1 + 1, #[.int .u64 0, .int .u64 0, .int .u64 0, .int .u64 0]), (w.heap.size, pw x)]) (by kernel_rfl) (by kernel_rfl) (H5.out.drew) ?_
  simp only [List.take_succ_cons, List.take_zero, List.drop_succ_cons, List.drop_zero]
  with_reducible refine q_val (.pointer (some ⟨F, 0, none⟩)) (by kernel_rfl) (fun _ _ => by kernel_rfl) ?_
  with_reducible refine q_load 24 (.tmp 7) (.pointer (some ⟨g, 0, none⟩)) (.agg (pw z)) rfl (by kernel_rfl) (by kernel_rfl) (fun _ c => ld_pw (c.is _ _ (by simp))) ?_
  with_reducible refine q_load 24 (.tmp 7) (.pointer (some ⟨g, 0, none⟩)) (.agg (pw z)) rfl (by kernel_rfl) (by kernel_rfl) (fun _ c => ld_pw (c.is _ _ (by simp))) ?_
  with_reducible refine q_load 24 (.tmp 4) (.pointer (some ⟨w.heap.size, 0, none⟩)) (.agg (pw x)) rfl (by kernel_rfl) (by kernel_rfl) (fun _ c => ld_pw (c.is _ _ (by simp))) ?_
  with_reducible refine q_call 36 #[.agg (pw z), .agg (pw x)] (.int .i64 (ord z x)) (by kernel_rfl) (fun _ => by kernel_rfl) (HCM.out) ?_
  with_reducible refine q_bin .lss 3 _ _ 3 (.int .i64 (ord z x)) (.int .i64 0) (.bool (decide (z < x))) rfl (by kernel_rfl) (by kernel_rfl) (by kernel_rfl) (fun _ => by kernel_rfl) (fun w' => lss_ord z x w') ?_
  with_reducible refine q_call 39 #[.pointer (some ⟨F, 0, none⟩), .agg (pw z), .bool (decide (z < x))] (.agg (pw v)) (by kernel_rfl) (fun _ => by kernel_rfl) (HLO.out) ?_
  with_reducible refine wpQuiet_nil ?_
  intro wx hC
  have HC := Lib.hid hC
  clear hC H5 HCM HLO
  simp only [Act.put, List.setIfInBounds_toArray, List.set_cons_succ, List.set_cons_zero]
  go_wp2_with (refine wpList_store_row rfl 24 _ _ rfl (w.heap.size + 1 + 1) (pw v) rfl rfl 24 (#[.int .u64 0, .int .u64 0, .int .u64 0, .int .u64 0]) (by exact HC.out.is _ _ (by simp)) (by rw [pw_size]; exact infoW4) (by first | rfl | (rw [pw_size]; rfl) | (rw [pw_size, pw_size])) (pw_one _) ?_)
  (try simp only [Act.put])
  refine bodyPost_ret (v := .agg (pw v)) (results_cell_row (p := 6) rfl _ _ (w.heap.size + 1 + 1) 24 (pw v) (0, 0) _ rfl (setRow_heap _ _ _ _ _ _ (by exact HC.out.is _ (#[.int .u64 0, .int .u64 0, .int .u64 0, .int .u64 0]) (by simp))) Try.underlying24 rfl (by rw [pw_size]; exact infoW4)) rfl ⟨by rw [← HV.out, HR.out], below_setRow HC.out.old (by omega) _⟩
set_option maxRecDepth 100000 in
set_option maxHeartbeats 4000000 in
-- WHAT Sub COMES TO.
theorem fsub_any (F m a b : Nat) (ha : a < 115792089237316195423570985008687907853269984665640564039457584007913129639936) (hb : b < 115792089237316195423570985008687907853269984665640564039457584007913129639936) (w : World) (hF : FldAt w F m) : Calls Try.prog 20 #[.pointer (some ⟨F, 0, none⟩), .agg (pw a), .agg (pw b)] w fun e w' => e = .returned (.agg (pw ((a % m + (m - b % m)) % m))) ∧ Below w.heap.size w w' := by
  have H0 := Lib.hid (CO.start hF ha hb)
  have hlt : ∀ z, z % m < m := fun z => Nat.mod_lt _ (by have := hF.big; omega)
  have HE := Lib.hid (sub_less (hlt a) (hlt b) hF.lt)
  have HN := Lib.hid (show a % m < 115792089237316195423570985008687907853269984665640564039457584007913129639936 ∧ b % m < 115792089237316195423570985008687907853269984665640564039457584007913129639936 from ⟨Nat.lt_trans (hlt a) hF.lt, Nat.lt_trans (hlt b) hF.lt⟩)
  clear hF ha hb hlt
  go_enter Try.func20, Try.ntmps20
  go_wp2_with fail
  refine region_tie (CO w F m a b) (fun i s wx => match i with | 0 => s 8 = .pointer (some ⟨F, 0, none⟩) | 1 => ∃ x, s 9 = .agg (pw x) ∧ x < 115792089237316195423570985008687907853269984665640564039457584007913129639936 ∧ x % m = a % m | 2 => s 10 = .agg (pw (a % m)) | 3 => s 11 = .pointer (some ⟨F, 0, none⟩) | 4 => ∃ x, s 12 = .agg (pw x) ∧ x < 115792089237316195423570985008687907853269984665640564039457584007913129639936 ∧ x % m = b % m | 5 => s 13 = .agg (pw (b % m)) | 6 => wx.heap[w.heap.size]? = some (.cells (pw (a % m)) 24 (0, 0)) | 7 => wx.heap[w.heap.size + 1]? = some (.cells (pw (b % m)) 24 (0, 0)) | _ => True) (RO w (a % m) (b % m)) (fun i => match i with | 0 => [8] | 1 => [9] | 2 => [10] | 3 => [11] | 4 => [12] | 5 => [13] | 6 => [] | 7 => [] | _ => []) (fun i => i) (by kernel_rfl) (by kernel_rfl) H0.out.drew ?_ ?_ ?_ ?_
  · intro i s s' wx he hp
    match i, he, hp with
    | 0, he, hp => exact (he 8 (by simp)).symm.trans hp
    | 1, he, hp => obtain ⟨x, h1, h2⟩ := hp; exact ⟨x, (he 9 (by simp)).symm.trans h1, h2⟩
    | 2, he, hp => exact (he 10 (by simp)).symm.trans hp
    | 3, he, hp => exact (he 11 (by simp)).symm.trans hp
    | 4, he, hp => obtain ⟨x, h1, h2⟩ := hp; exact ⟨x, (he 12 (by simp)).symm.trans h1, h2⟩
    | 5, he, hp => exact (he 13 (by simp)).symm.trans hp
    | 6, he, hp => exact hp
    | 7, he, hp => exact hp
    | _ + 8, _, _ => trivial
  · intro i s wa wb hR hp
    match i, hp with
    | 0, hp => exact hp
    | 1, hp => exact hp
    | 2, hp => exact hp
    | 3, hp => exact hp
    | 4, hp => exact hp
    | 5, hp => exact hp
    | 6, hp => exact hR.1 hp
    | 7, hp => exact hR.2 hp
    | _ + 8, _ => trivial
  · refine ⟨?_, ?_, ?_, ?_, ?_, ?_, ?_, ?_, trivial⟩
    · intro a_ wx hC hsz hK
      have h0 : a_.tmps.getD 0 undef = (.pointer (some ⟨F, 0, none⟩)) := hK.1 0 (by kernel_rfl)
      exact tt_val (.pointer (some ⟨F, 0, none⟩)) (by kernel_rfl) (by rw [← h0]; kernel_rfl) hC (slots_put _ _ _ (by rw [hsz]; exact of_decide_eq_true (by kernel_rfl))) (RO.refl _ _ _ _)
    · intro a_ wx hC hsz hK
      have h0 : a_.tmps.getD 4 undef = (.pointer (some ⟨w.heap.size, 0, none⟩)) := hK.1 4 (by kernel_rfl)
      obtain ⟨x, h1, h2⟩ := hC.r0
      exact tt_load 24 (.tmp 4) (.pointer (some ⟨w.heap.size, 0, none⟩)) (.agg (pw x)) rfl (by kernel_rfl) h0 (ld_pw h1) hC ⟨x, (slots_put _ _ _ (by rw [hsz]; exact of_decide_eq_true (by kernel_rfl))), h2⟩ (RO.refl _ _ _ _)
    · intro a_ wx hC hsz hK
      have h0 : a_.tmps.getD 8 undef = (.pointer (some ⟨F, 0, none⟩)) := hK.2 ⟨0, .data⟩ (by simp) rfl _ rfl
      obtain ⟨x, h1, h2, h3⟩ := hK.2 ⟨1, .data⟩ (by simp) rfl _ rfl
      refine tt_call 13 #[a_.tmps.getD 8 undef, a_.tmps.getD 9 undef] (by kernel_rfl) (by kernel_rfl) ?_
      rw [h0, show a_.tmps.getD 9 undef = _ from h1]
      exact (fof_any F m x h2 wx hC.fld).mono fun e w' hh => ⟨.agg (pw (a % m)), by rw [hh.1, h3], hC.below hh.2, (slots_put _ _ _ (by rw [hsz]; exact of_decide_eq_true (by kernel_rfl))), RO.of hh.2⟩
    · intro a_ wx hC hsz hK
      have h0 : a_.tmps.getD 0 undef = (.pointer (some ⟨F, 0, none⟩)) := hK.1 0 (by kernel_rfl)
      exact tt_val (.pointer (some ⟨F, 0, none⟩)) (by kernel_rfl) (by rw [← h0]; kernel_rfl) hC (slots_put _ _ _ (by rw [hsz]; exact of_decide_eq_true (by kernel_rfl))) (RO.refl _ _ _ _)
    · intro a_ wx hC hsz hK
      have h0 : a_.tmps.getD 5 undef = (.pointer (some ⟨w.heap.size + 1, 0, none⟩)) := hK.1 5 (by kernel_rfl)
      obtain ⟨x, h1, h2⟩ := hC.r1
      exact tt_load 24 (.tmp 5) (.pointer (some ⟨w.heap.size + 1, 0, none⟩)) (.agg (pw x)) rfl (by kernel_rfl) h0 (ld_pw h1) hC ⟨x, (slots_put _ _ _ (by rw [hsz]; exact of_decide_eq_true (by kernel_rfl))), h2⟩ (RO.refl _ _ _ _)
    · intro a_ wx hC hsz hK
      have h0 : a_.tmps.getD 11 undef = (.pointer (some ⟨F, 0, none⟩)) := hK.2 ⟨3, .data⟩ (by simp) rfl _ rfl
      obtain ⟨x, h1, h2, h3⟩ := hK.2 ⟨4, .data⟩ (by simp) rfl _ rfl
      refine tt_call 13 #[a_.tmps.getD 11 undef, a_.tmps.getD 12 undef] (by kernel_rfl) (by kernel_rfl) ?_
      rw [h0, show a_.tmps.getD 12 undef = _ from h1]
      exact (fof_any F m x h2 wx hC.fld).mono fun e w' hh => ⟨.agg (pw (b % m)), by rw [hh.1, h3], hC.below hh.2, (slots_put _ _ _ (by rw [hsz]; exact of_decide_eq_true (by kernel_rfl))), RO.of hh.2⟩
    · intro a_ wx hC hsz hK
      have h0 : a_.tmps.getD 4 undef = (.pointer (some ⟨w.heap.size, 0, none⟩)) := hK.1 4 (by kernel_rfl)
      have h1 : a_.tmps.getD 10 undef = .agg (pw (a % m)) := hK.2 ⟨2, .data⟩ (by simp) rfl _ rfl
      obtain ⟨x, h2, h3⟩ := hC.r0
      exact tt_store (by kernel_rfl) rfl (run_st 24 (.tmp 4) (.tmp 10) _ _ rfl h0 h1 (store_w (pw_size _) h2)) hC.set0 (setRow_heap _ _ _ _ _ _ h2) ⟨fun _ => setRow_heap _ _ _ _ _ _ h2, fun h => (setRow_other _ _ _ _ (by omega)).trans h⟩
    · intro a_ wx hC hsz hK
      have h0 : a_.tmps.getD 5 undef = (.pointer (some ⟨w.heap.size + 1, 0, none⟩)) := hK.1 5 (by kernel_rfl)
      have h1 : a_.tmps.getD 13 undef = .agg (pw (b % m)) := hK.2 ⟨5, .data⟩ (by simp) rfl _ rfl
      obtain ⟨x, h2, h3⟩ := hC.r1
      exact tt_store (by kernel_rfl) rfl (run_st 24 (.tmp 5) (.tmp 13) _ _ rfl h0 h1 (store_w (pw_size _) h2)) hC.set1 (setRow_heap _ _ _ _ _ _ h2) ⟨fun h => (setRow_other _ _ _ _ (by omega)).trans h, fun _ => setRow_heap _ _ _ _ _ _ h2⟩
  intro f1 wy hCy hf
  have k0 := hf 6 _ rfl
  have k1 := hf 7 _ rfl
  have H1 := Lib.hid (hCy.done k0 k1)
  clear hf hCy k0 k1 H0
  simp only [putAll, Act.put, List.setIfInBounds_toArray, List.set_cons_succ, List.set_cons_zero]
  obtain ⟨x, hx⟩ : ∃ x, a % m = x := ⟨_, rfl⟩
  obtain ⟨y, hy⟩ : ∃ y, b % m = y := ⟨_, rfl⟩
  rw [hx, hy] at H1 HE HN
  have HR2 := Lib.hid (And.intro hx hy)
  clear hx hy
  go_wp2_with (first | (refine wpList_ld rfl 24 _ rfl (.pointer (some ⟨w.heap.size, 0, none⟩)) (.agg (pw x)) rfl (ld_pw (by exact H1.out.is _ _ (by simp))) ?_) | (refine wpList_ld rfl 24 _ rfl (.pointer (some ⟨w.heap.size + 1, 0, none⟩)) (.agg (pw y)) rfl (ld_pw (by exact H1.out.is _ _ (by simp))) ?_))
  refine (sub_pw x y HN.out.2 _).mono ?_
  rintro e w5 ⟨rfl, hb5⟩
  rw [show pw (x + (115792089237316195423570985008687907853269984665640564039457584007913129639936 - y)) = pw ((x + (115792089237316195423570985008687907853269984665640564039457584007913129639936 - y)) % 115792089237316195423570985008687907853269984665640564039457584007913129639936) from pw_congr (by rw [Nat.mod_mod])]
  obtain ⟨z, hz⟩ : ∃ z, (x + (115792089237316195423570985008687907853269984665640564039457584007913129639936 - y)) % 115792089237316195423570985008687907853269984665640564039457584007913129639936 = z := ⟨_, rfl⟩
  rw [hz] at HE ⊢
  clear hz
  obtain ⟨g, hg⟩ : ∃ g, w5.heap.size = g := ⟨_, rfl⟩
  have H5 := Lib.hid (show CW w F m [(g, pw z), (w.heap.size + 1 + 1, #[.int .u64 0, .int .u64 0, .int .u64 0, .int .u64 0]), (w.heap.size + 1, pw y), (w.heap.size, pw x)] ((w5.alloc (.cells #[.int .u64 0, .int .u64 0, .int .u64 0, .int .u64 0] 24)).setRow w5.heap.size (pw z)) from by
    rw [← hg]
    have c := (H1.out.below hb5).new #[.int .u64 0, .int .u64 0, .int .u64 0, .int .u64 0]
    have h9 := (H1.out.below hb5).old.size
    have h8 : w.heap.size + 1 + 1 < w5.heap.size := (Array.getElem?_eq_some_iff.1 ((H1.out.below hb5).is (w.heap.size + 1 + 1) #[.int .u64 0, .int .u64 0, .int .u64 0, .int .u64 0] (by simp))).1
    exact c.put w5.heap.size #[.int .u64 0, .int .u64 0, .int .u64 0, .int .u64 0] (pw z) _ h9 (by simp) (fun p hp => by
      simp only [List.mem_cons, List.not_mem_nil, or_false] at hp
      rcases hp with rfl | rfl | rfl
      · exact ⟨by simp, by show w.heap.size + 1 + 1 ≠ _; omega⟩
      · exact ⟨by simp, by show w.heap.size + 1 ≠ _; omega⟩
      · exact ⟨by simp, by show w.heap.size ≠ _; omega⟩))
  have HG := Lib.hid (And.intro hg (heap_alloc_new w5 (.cells #[.int .u64 0, .int .u64 0, .int .u64 0, .int .u64 0] 24)))
  clear hb5 hg
  go_wp2_with (first | (refine wpList_store_row rfl 24 _ _ rfl w5.heap.size (pw z) rfl rfl 24 (#[.int .u64 0, .int .u64 0, .int .u64 0, .int .u64 0]) (by exact HG.out.2) (by rw [pw_size]; exact infoW4) (by rw [pw_size]; rfl) (pw_one _) ?_) | (refine wpList_ld rfl 24 _ rfl (.pointer (some ⟨w.heap.size, 0, none⟩)) (.agg (pw x)) rfl (ld_pw (by exact H5.out.is w.heap.size (pw x) (by simp))) ?_) | (refine wpList_ld rfl 24 _ rfl (.pointer (some ⟨w.heap.size + 1, 0, none⟩)) (.agg (pw y)) rfl (ld_pw (by exact H5.out.is (w.heap.size + 1) (pw y) (by simp))) ?_))
  obtain ⟨w6, hw6⟩ : ∃ w6, (w5.alloc (.cells #[.int .u64 0, .int .u64 0, .int .u64 0, .int .u64 0] 24)).setRow w5.heap.size (pw z) = w6 := ⟨_, rfl⟩
  rw [hw6] at H5 ⊢
  rw [HG.out.1]
  clear hw6 HG H1
  refine (cmp_pw x y HN.out.1 HN.out.2 _).mono ?_
  rintro e w7 ⟨rfl, hb7⟩
  have H7 := Lib.hid (H5.out.below hb7)
  clear hb7 H5
  obtain ⟨o, ho⟩ : ∃ o, ord x y = o := ⟨_, rfl⟩
  rw [ho]
  by_cases hc : x < y
  · have ho2 : o < 0 := by rw [← ho]; unfold ord; rw [if_pos hc]; omega
    clear ho
    have HD := Lib.hid (HE.out.1 hc)
    clear hc HE
    go_wp2_with fail
    have HAD := Lib.hid (CW.calls (w := w) (F := F) (m := m) (L := [(g, pw z), (w.heap.size + 1 + 1, #[.int .u64 0, .int .u64 0, .int .u64 0, .int .u64 0]), (w.heap.size + 1, pw y), (w.heap.size, pw x)]) (fun wx _ => add_pw z m wx))
    rw [HD.out] at HAD
    obtain ⟨v, hv⟩ : ∃ v, (x + (m - y)) % m = v := ⟨_, rfl⟩
    rw [hv] at HAD
    have HV := Lib.hid hv
    clear hv
    refine region_quiet_tail 6 (CW w F m [(g, pw z), (w.heap.size + 1 + 1, #[.int .u64 0, .int .u64 0, .int .u64 0, .int .u64 0]), (w.heap.size + 1, pw y), (w.heap.size, pw x)]) (by kernel_rfl) (by kernel_rfl) (H7.out.drew) ?_
    simp only [List.take_succ_cons, List.take_zero, List.drop_succ_cons, List.drop_zero]
    with_reducible refine q_load 24 (.tmp 7) (.pointer (some ⟨g, 0, none⟩)) (.agg (pw z)) rfl (by kernel_rfl) (by kernel_rfl) (fun _ c => ld_pw (c.is _ _ (by simp))) ?_
    with_reducible refine q_val (.pointer (some ⟨F, 0, none⟩)) (by kernel_rfl) (fun _ _ => by kernel_rfl) ?_
    with_reducible refine q_val (.pointer (some ⟨F, 0, none⟩)) (by kernel_rfl) (fun _ _ => run_nil (.tmp 22) _ rfl (by kernel_rfl)) ?_
    with_reducible refine q_sem2 (Instr.fieldAt 49 (.pointer (some ⟨F, 0, none⟩)) 0) (.pointer (some ⟨F, 0, none⟩)) (by kernel_rfl) (by kernel_rfl) (fun w' _ => fld_at F w') ?_
    with_reducible refine q_load 24 (.tmp 24) (.pointer (some ⟨F, 0, none⟩)) (.agg (pw m)) rfl (by kernel_rfl) (by kernel_rfl) (fun _ c => ld_m c.fld) ?_
    with_reducible refine q_call 38 #[.agg (pw z), .agg (pw m)] (.agg (pw v)) (by kernel_rfl) (fun _ => by kernel_rfl) (HAD.out) ?_
    with_reducible refine wpQuiet_nil ?_
    intro wx hC
    have HC := Lib.hid hC
    clear hC H7 HAD
    simp only [Act.put, List.setIfInBounds_toArray, List.set_cons_succ, List.set_cons_zero]
    go_wp2_with (refine wpList_store_row rfl 24 _ _ rfl (w.heap.size + 1 + 1) (pw v) rfl rfl 24 (#[.int .u64 0, .int .u64 0, .int .u64 0, .int .u64 0]) (by exact HC.out.is _ _ (by simp)) (by rw [pw_size]; exact infoW4) (by first | rfl | (rw [pw_size]; rfl) | (rw [pw_size, pw_size])) (pw_one _) ?_)
    (try simp only [Act.put])
    refine bodyPost_ret (v := .agg (pw v)) (results_cell_row (p := 6) rfl _ _ (w.heap.size + 1 + 1) 24 (pw v) (0, 0) _ rfl (setRow_heap _ _ _ _ _ _ (by exact HC.out.is _ (#[.int .u64 0, .int .u64 0, .int .u64 0, .int .u64 0]) (by simp))) Try.underlying24 rfl (by rw [pw_size]; exact infoW4)) rfl ⟨by rw [← HV.out, HR2.out.1, HR2.out.2], below_setRow HC.out.old (by omega) _⟩
  · have ho2 : ¬ o < 0 := by rw [← ho]; unfold ord; rw [if_neg hc]; split <;> omega
    clear ho
    have HD := Lib.hid (HE.out.2 hc)
    clear hc HE
    go_wp2_with (first | (refine wpList_ld rfl 24 _ rfl (.pointer (some ⟨g, 0, none⟩)) (.agg (pw z)) rfl (ld_pw (by exact H7.out.is g (pw z) (by simp))) ?_) | (refine wpList_store_row rfl 24 _ _ rfl (w.heap.size + 1 + 1) (pw z) rfl rfl 24 (#[.int .u64 0, .int .u64 0, .int .u64 0, .int .u64 0]) (by exact H7.out.is _ _ (by simp)) (by rw [pw_size]; exact infoW4) (by first | rfl | (rw [pw_size]; rfl) | (rw [pw_size, pw_size])) (pw_one _) ?_))
    (try simp only [Act.put])
    refine bodyPost_ret (v := .agg (pw z)) (results_cell_row (p := 6) rfl _ _ (w.heap.size + 1 + 1) 24 (pw z) (0, 0) _ rfl (setRow_heap _ _ _ _ _ _ (by exact H7.out.is _ (#[.int .u64 0, .int .u64 0, .int .u64 0, .int .u64 0]) (by simp))) Try.underlying24 rfl (by rw [pw_size]; exact infoW4)) rfl ⟨by rw [HD.out, HR2.out.1, HR2.out.2], below_setRow H7.out.old (by omega) _⟩
end Go.Proofs.Ytfgefifplmhopaa

/- What the statements call to see whether anything is reckoned answers true. -/
import Derived.Test.YthfadinocadhaaaDoorLives
import Derived.Test.YthfadinocadhaaaDoorTail
namespace Go.Proofs.YthfadinocadhaaaDoor
open Go.RowKit

/-- The worlds in which block b is still the word that it was, and nothing elder has turned. -/
def ClW (w : World) (b : Nat) (v0 v1 v2 v3 : Value) (wx : World) : Prop := Below w.heap.size w wx ∧ (wx.cell? ⟨b, 0, none⟩ = some v0 ∧ wx.cell? ⟨b, 1, none⟩ = some v1 ∧ wx.cell? ⟨b, 2, none⟩ = some v2 ∧ wx.cell? ⟨b, 3, none⟩ = some v3) ∧ b < wx.heap.size
theorem ClW.below {w wx w' : World} {b : Nat} {v0 v1 v2 v3 : Value} (h : ClW w b v0 v1 v2 v3 wx) (hb : Below wx.heap.size wx w') : ClW w b v0 v1 v2 v3 w' := by
  obtain ⟨h0, ⟨c0, c1, c2, c3⟩, hs⟩ := h
  exact ⟨h0.trans (hb.mono h0.size), ⟨(hb.cell hs).trans c0, (hb.cell hs).trans c1, (hb.cell hs).trans c2, (hb.cell hs).trans c3⟩, Nat.lt_of_lt_of_le hs hb.size⟩
theorem ClW.drew {w wx : World} {b : Nat} {v0 v1 v2 v3 : Value} (h : ClW w b v0 v1 v2 v3 wx) : ClW w b v0 v1 v2 v3 wx.drew := ⟨h.1.drew, h.2.1, h.2.2⟩

set_option maxRecDepth 100000 in
set_option maxHeartbeats 2000000 in
theorem lives_walk (w : World)
    (hO7 : ∀ w, Calls Tryd.prog 57 #[.int .u64 7] w fun e w' => e = .returned (.agg #[.int .u64 7, .int .u64 0, .int .u64 0, .int .u64 0]) ∧ Below w.heap.size w w')
    (hO6 : ∀ w, Calls Tryd.prog 57 #[.int .u64 6] w fun e w' => e = .returned (.agg #[.int .u64 6, .int .u64 0, .int .u64 0, .int .u64 0]) ∧ Below w.heap.size w w')
    (hO41 : ∀ w, Calls Tryd.prog 57 #[.int .u64 41] w fun e w' => e = .returned (.agg #[.int .u64 41, .int .u64 0, .int .u64 0, .int .u64 0]) ∧ Below w.heap.size w w')
    (hM : ∀ w, Calls Tryd.prog 17 #[.agg #[.int .u64 7, .int .u64 0, .int .u64 0, .int .u64 0], .agg #[.int .u64 6, .int .u64 0, .int .u64 0, .int .u64 0]] w fun e w' => e = .returned (.agg #[.int .u64 42, .int .u64 0, .int .u64 0, .int .u64 0]) ∧ Below w.heap.size w w')
    (hS : ∀ w, Calls Tryd.prog 52 #[.agg #[.int .u64 42, .int .u64 0, .int .u64 0, .int .u64 0]] w fun e w' => e = .returned (.tuple #[.int .u64 42, .bool true]) ∧ Below w.heap.size w w')
    (hD : ∀ w, Calls Tryd.prog 55 #[.agg #[.int .u64 42, .int .u64 0, .int .u64 0, .int .u64 0]] w fun e w' => e = .returned (.string ⟨#[52, 50]⟩) ∧ Below w.heap.size w w')
    (hC : ∀ w, Calls Tryd.prog 22 #[.agg #[.int .u64 42, .int .u64 0, .int .u64 0, .int .u64 0], .agg #[.int .u64 41, .int .u64 0, .int .u64 0, .int .u64 0]] w fun e w' => e = .returned (.int .i64 1) ∧ Below w.heap.size w w') :
    Calls Tryd.prog 19 #[] w fun e w' => e = .returned (.bool true) ∧ Below w.heap.size w w' := by
  have HO7 := Lib.hid hO7; clear hO7
  have HO6 := Lib.hid hO6; clear hO6
  have HO41 := Lib.hid hO41; clear hO41
  have HM := Lib.hid hM; clear hM
  have HS := Lib.hid hS; clear hS
  have HD := Lib.hid hD; clear hD
  have HC := Lib.hid hC; clear hC
  go_enter Tryd.func19, Tryd.ntmps19
  go_wp2_with fail
  refine (HO7.out _).mono ?_
  rintro e w1 ⟨rfl, b1⟩
  go_wp2_with fail
  refine (HO6.out _).mono ?_
  rintro e w2 ⟨rfl, hb⟩
  have b2 : Below w.heap.size w w2 := b1.trans (hb.mono b1.size)
  clear hb b1
  go_wp2_with fail
  refine (HM.out _).mono ?_
  rintro e w3 ⟨rfl, hb⟩
  have b3 : Below w.heap.size w w3 := b2.trans (hb.mono b2.size)
  clear hb b2
  go_wp2_with fail
  refine (HS.out _).mono ?_
  rintro e w4 ⟨rfl, hb⟩
  have hcl0 : ClW w w3.heap.size (.int .u64 42) (.int .u64 0) (.int .u64 0) (.int .u64 0) (w3.alloc (.cells #[.int .u64 42, .int .u64 0, .int .u64 0, .int .u64 0] 24)) := ⟨b3.alloc b3.size _, ⟨by go_cell, by go_cell, by go_cell, by go_cell⟩, by simp⟩
  have HCL := Lib.hid (hcl0.below hb)
  clear hcl0 hb b3
  go_wp2_with fail
  refine wp_region_quiet (C := ClW w w3.heap.size (.int .u64 42) (.int .u64 0) (.int .u64 0) (.int .u64 0)) (by kernel_rfl) (by kernel_rfl) HCL.out.drew ?_
  refine wpQuiet_step (fun K hK => ?_)
  go_simp
  first | refine ⟨_, fun _ _ => rfl, hK _ ?_⟩ | refine hK _ ?_
  clear hK K
  refine wpQuiet_step (fun K hK => ?_)
  go_simp
  first | refine ⟨_, fun _ _ => rfl, hK _ ?_⟩ | refine hK _ ?_
  clear hK K
  refine wpQuiet_step (fun K hK => ?_)
  go_simp
  first | refine ⟨_, fun _ _ => rfl, hK _ ?_⟩ | refine hK _ ?_
  clear hK K
  refine wpQuiet_step (fun K hK => ?_)
  go_simp
  first | refine ⟨_, fun _ _ => rfl, hK _ ?_⟩ | refine hK _ ?_
  clear hK K
  refine wpQuiet_step (fun K hK => ?_)
  go_simp
  first | refine ⟨_, fun _ _ => rfl, hK _ ?_⟩ | refine hK _ ?_
  clear hK K
  refine wpQuiet_step (fun K hK => ?_)
  go_simp
  first | refine ⟨_, fun _ _ => rfl, hK _ ?_⟩ | refine hK _ ?_
  clear hK K
  refine wpQuiet_step (fun K hK => ?_)
  rw [if_pos (by rfl)]
  refine ⟨.agg #[.int .u64 42, .int .u64 0, .int .u64 0, .int .u64 0], fun wx hC => ?_, hK _ ?_⟩
  · obtain ⟨-, ⟨c0, c1, c2, c3⟩, -⟩ := hC
    go_simp
  clear hK K
  refine wpQuiet_step (fun K hK => ?_)
  rw [if_pos (by rfl)]
  refine ⟨.string ⟨#[52, 50]⟩, fun wx hC => ?_, hK _ ?_⟩
  · go_simp
    refine (HD.out _).mono ?_
    rintro e w' ⟨rfl, hb⟩
    exact ⟨rfl, hC.below hb⟩
  clear hK K
  refine wpQuiet_step (fun K hK => ?_)
  go_simp
  first | refine ⟨_, fun _ _ => rfl, hK _ ?_⟩ | refine hK _ ?_
  clear hK K
  refine wpQuiet_step (fun K hK => ?_)
  go_simp
  first | refine ⟨_, fun _ _ => rfl, hK _ ?_⟩ | refine hK _ ?_
  clear hK K
  refine wpQuiet_step (fun K hK => ?_)
  go_simp
  first | refine ⟨_, fun _ _ => rfl, hK _ ?_⟩ | refine hK _ ?_
  clear hK K
  refine wpQuiet_step (fun K hK => ?_)
  rw [if_pos (by rfl)]
  refine ⟨.agg #[.int .u64 42, .int .u64 0, .int .u64 0, .int .u64 0], fun wx hC => ?_, hK _ ?_⟩
  · obtain ⟨-, ⟨c0, c1, c2, c3⟩, -⟩ := hC
    go_simp
  clear hK K
  refine wpQuiet_step (fun K hK => ?_)
  rw [if_pos (by rfl)]
  refine ⟨.agg #[.int .u64 41, .int .u64 0, .int .u64 0, .int .u64 0], fun wx hC => ?_, hK _ ?_⟩
  · go_simp
    refine (HO41.out _).mono ?_
    rintro e w' ⟨rfl, hb⟩
    exact ⟨rfl, hC.below hb⟩
  clear hK K
  refine wpQuiet_step (fun K hK => ?_)
  rw [if_pos (by rfl)]
  refine ⟨.int .i64 1, fun wx hC => ?_, hK _ ?_⟩
  · go_simp
    refine (HC.out _).mono ?_
    rintro e w' ⟨rfl, hb⟩
    exact ⟨rfl, hC.below hb⟩
  clear hK K
  refine wpQuiet_step (fun K hK => ?_)
  go_simp
  first | refine ⟨_, fun _ _ => rfl, hK _ ?_⟩ | refine hK _ ?_
  clear hK K
  refine wpQuiet_step (fun K hK => ?_)
  go_simp
  first | refine ⟨_, fun _ _ => rfl, hK _ ?_⟩ | refine hK _ ?_
  clear hK K
  refine wpQuiet_step (fun K hK => ?_)
  go_simp
  first | refine ⟨_, fun _ _ => rfl, hK _ ?_⟩ | refine hK _ ?_
  clear hK K
  refine wpQuiet_nil ?_
  intro wx hC
  have hB := hC.1
  clear hC
  go_wp2
  go_ret
  exact ⟨rfl, hB⟩

-- lives ANSWERS TRUE.
theorem lives_any (w : World) : Calls Tryd.prog 19 #[] w fun e w' => e = .returned (.bool true) ∧ Below w.heap.size w w' := by
  have o : ∀ n : Nat, ∀ w, Calls Tryd.prog 57 #[.int .u64 n] w fun e w' => e = .returned (.agg #[.int .u64 n, .int .u64 0, .int .u64 0, .int .u64 0]) ∧ Below w.heap.size w w' := fun n w => of_walk n w
  have e42 : wv (7 * 6) = .agg #[.int .u64 42, .int .u64 0, .int .u64 0, .int .u64 0] := wv_one (x := 42) (by omega)
  refine lives_walk w (o 7) (o 6) (o 41) (fun w => ?_) (fun w => small_yes 42 w) (fun w => decimal42 w (fun w => divide_small 42 10000000000000000000 (by omega) (by omega) (by omega) (by omega) w)) (fun w => ?_)
  · have h := mul_any 7 6 w
    rw [e42, wv_one (x := 7) (by omega), wv_one (x := 6) (by omega)] at h
    exact h
  · have h := cmp_any 42 41 w
    rw [wv_one (x := 42) (by omega), wv_one (x := 41) (by omega)] at h
    exact h
end Go.Proofs.YthfadinocadhaaaDoor

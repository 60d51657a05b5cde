/- The permutation's first step: what mixColumns comes to. -/
import Derived.Test.YtcmpnnfnkcmpcaaDoorKCol
import Derived.Test.YtcmpnnfnkcmpcaaDoorKRot
import Derived.Test.YtcmpnnfnkcmpcaaDoorQL
namespace Go.Proofs.YtcmpnnfnkcmpcaaDoor
open Go.RowKit

/-- The xor of the column x. -/
def kcl (v : Nat → Int) (x : Nat) : Int := bits .xor .u64 (bits .xor .u64 (bits .xor .u64 (bits .xor .u64 (v x) (v (x + 5))) (v (x + 10))) (v (x + 15))) (v (x + 20))
/-- What is laid over the column x. -/
def kds (v : Nat → Int) (x : Nat) : Int := bits .xor .u64 (kcl v ((x + 4) % 5)) (rul 1 (kcl v ((x + 1) % 5)))
/-- The state behind the first step. -/
def kth (v : Nat → Int) (i : Nat) : Int := if i < 25 then bits .xor .u64 (v i) (kds v (i % 5)) else v i
theorem kth_eq (v : Nat → Int) : xcv (xcv (xcv (xcv (xcv v 0 (kds v 0)) 1 (kds v 1)) 2 (kds v 2)) 3 (kds v 3)) 4 (kds v 4) = kth v := by
  funext i
  unfold xcv kth
  by_cases h : i < 25
  · have hm : i % 5 = 0 ∨ i % 5 = 1 ∨ i % 5 = 2 ∨ i % 5 = 3 ∨ i % 5 = 4 := by omega
    rcases hm with hm | hm | hm | hm | hm <;> simp [h, hm]
  · simp [h]
set_option maxRecDepth 100000 in
set_option maxHeartbeats 4000000 in
-- THE FIRST STEP.
theorem kmix {V : Nat} {tt : TypeId} {tl : Array Value} {v : Nat → Int} (w : World) (hw : w.heap[V]? = some (.cells (kr v tl) tt (0, 0))) :
    Calls Tryd.prog 39 #[.pointer (some ⟨V, 0, none⟩)] w fun e w' => e = .returned (.tuple #[]) ∧ CK w V tt tl (kth v) w' := by
  have H0 := Lib.hid (show CK w V tt tl v w from ⟨KBut.refl _ _, hw⟩)
  clear hw
  go_enter Tryd.func39, Tryd.ntmps39
  -- region 0
  go_wp2_with fail
  refine wp_region_quiet (C := CK w V tt tl v) (by kernel_rfl) (by kernel_rfl) H0.out.drew ?_
  with_reducible refine q_val (.pointer (some ⟨V, 0, none⟩)) (by kernel_rfl) (fun _ _ => by kernel_rfl) ?_
  with_reducible refine q_val (.pointer (some ⟨V, 0, none⟩)) (by kernel_rfl) (fun _ _ => by kernel_rfl) ?_
  with_reducible refine q_val (.pointer (some ⟨V, 0, none⟩)) (by kernel_rfl) (fun _ _ => by kernel_rfl) ?_
  with_reducible refine q_load 34 (.tmp 9) (.pointer (some ⟨V, 0, none⟩)) (.int .u64 (v 0)) rfl (by kernel_rfl) (by kernel_rfl) (fun _ h => h.at' 0 (by decide) _ rfl) ?_
  with_reducible refine q_val (.pointer (some ⟨V, 0, none⟩)) (by kernel_rfl) (fun _ _ => by kernel_rfl) ?_
  with_reducible refine q_val (.pointer (some ⟨V, 0, none⟩)) (by kernel_rfl) (fun _ _ => by kernel_rfl) ?_
  with_reducible refine q_val (.pointer (some ⟨V, 5, none⟩)) (by kernel_rfl) (fun _ _ => by kernel_rfl) ?_
  with_reducible refine q_load 34 (.tmp 13) (.pointer (some ⟨V, 5, none⟩)) (.int .u64 (v 5)) rfl (by kernel_rfl) (by kernel_rfl) (fun _ h => h.at' 5 (by decide) _ rfl) ?_
  with_reducible refine q_val (.int .u64 (bits .xor .u64 (v 0) (v 5))) (by kernel_rfl) (fun _ _ => by kernel_rfl) ?_
  with_reducible refine q_val (.pointer (some ⟨V, 0, none⟩)) (by kernel_rfl) (fun _ _ => by kernel_rfl) ?_
  with_reducible refine q_val (.pointer (some ⟨V, 0, none⟩)) (by kernel_rfl) (fun _ _ => by kernel_rfl) ?_
  with_reducible refine q_val (.pointer (some ⟨V, 10, none⟩)) (by kernel_rfl) (fun _ _ => by kernel_rfl) ?_
  with_reducible refine q_load 34 (.tmp 18) (.pointer (some ⟨V, 10, none⟩)) (.int .u64 (v 10)) rfl (by kernel_rfl) (by kernel_rfl) (fun _ h => h.at' 10 (by decide) _ rfl) ?_
  with_reducible refine q_val (.int .u64 (bits .xor .u64 (bits .xor .u64 (v 0) (v 5)) (v 10))) (by kernel_rfl) (fun _ _ => by kernel_rfl) ?_
  with_reducible refine q_val (.pointer (some ⟨V, 0, none⟩)) (by kernel_rfl) (fun _ _ => by kernel_rfl) ?_
  with_reducible refine q_val (.pointer (some ⟨V, 0, none⟩)) (by kernel_rfl) (fun _ _ => by kernel_rfl) ?_
  with_reducible refine q_val (.pointer (some ⟨V, 15, none⟩)) (by kernel_rfl) (fun _ _ => by kernel_rfl) ?_
  with_reducible refine q_load 34 (.tmp 23) (.pointer (some ⟨V, 15, none⟩)) (.int .u64 (v 15)) rfl (by kernel_rfl) (by kernel_rfl) (fun _ h => h.at' 15 (by decide) _ rfl) ?_
  with_reducible refine q_val (.int .u64 (bits .xor .u64 (bits .xor .u64 (bits .xor .u64 (v 0) (v 5)) (v 10)) (v 15))) (by kernel_rfl) (fun _ _ => by kernel_rfl) ?_
  with_reducible refine q_val (.pointer (some ⟨V, 0, none⟩)) (by kernel_rfl) (fun _ _ => by kernel_rfl) ?_
  with_reducible refine q_val (.pointer (some ⟨V, 0, none⟩)) (by kernel_rfl) (fun _ _ => by kernel_rfl) ?_
  with_reducible refine q_val (.pointer (some ⟨V, 20, none⟩)) (by kernel_rfl) (fun _ _ => by kernel_rfl) ?_
  with_reducible refine q_load 34 (.tmp 28) (.pointer (some ⟨V, 20, none⟩)) (.int .u64 (v 20)) rfl (by kernel_rfl) (by kernel_rfl) (fun _ h => h.at' 20 (by decide) _ rfl) ?_
  with_reducible refine q_val (.int .u64 (bits .xor .u64 (bits .xor .u64 (bits .xor .u64 (bits .xor .u64 (v 0) (v 5)) (v 10)) (v 15)) (v 20))) (by kernel_rfl) (fun _ _ => by kernel_rfl) ?_
  with_reducible refine q_val (.int .u64 (bits .xor .u64 (bits .xor .u64 (bits .xor .u64 (bits .xor .u64 (v 0) (v 5)) (v 10)) (v 15)) (v 20))) (by kernel_rfl) (fun _ _ => by kernel_rfl) ?_
  with_reducible refine wpQuiet_nil ?_
  intro w1 hC1
  clear H0
  have H0 := Lib.hid hC1
  clear hC1
  simp only [Act.put, List.setIfInBounds_toArray, List.set_cons_succ, List.set_cons_zero]
  have e0 : bits .xor .u64 (bits .xor .u64 (bits .xor .u64 (bits .xor .u64 (v 0) (v 5)) (v 10)) (v 15)) (v 20) = kcl v 0 := rfl
  rw [e0]
  clear e0
  obtain ⟨K0, hK0⟩ : ∃ z, kcl v 0 = z := ⟨_, rfl⟩
  rw [hK0]
  -- region 1
  go_wp2_with fail
  refine wp_region_quiet (C := CK w V tt tl v) (by kernel_rfl) (by kernel_rfl) H0.out.drew ?_
  with_reducible refine q_val (.pointer (some ⟨V, 0, none⟩)) (by kernel_rfl) (fun _ _ => by kernel_rfl) ?_
  with_reducible refine q_val (.pointer (some ⟨V, 0, none⟩)) (by kernel_rfl) (fun _ _ => by kernel_rfl) ?_
  with_reducible refine q_val (.pointer (some ⟨V, 1, none⟩)) (by kernel_rfl) (fun _ _ => by kernel_rfl) ?_
  with_reducible refine q_load 34 (.tmp 33) (.pointer (some ⟨V, 1, none⟩)) (.int .u64 (v 1)) rfl (by kernel_rfl) (by kernel_rfl) (fun _ h => h.at' 1 (by decide) _ rfl) ?_
  with_reducible refine q_val (.pointer (some ⟨V, 0, none⟩)) (by kernel_rfl) (fun _ _ => by kernel_rfl) ?_
  with_reducible refine q_val (.pointer (some ⟨V, 0, none⟩)) (by kernel_rfl) (fun _ _ => by kernel_rfl) ?_
  with_reducible refine q_val (.pointer (some ⟨V, 6, none⟩)) (by kernel_rfl) (fun _ _ => by kernel_rfl) ?_
  with_reducible refine q_load 34 (.tmp 37) (.pointer (some ⟨V, 6, none⟩)) (.int .u64 (v 6)) rfl (by kernel_rfl) (by kernel_rfl) (fun _ h => h.at' 6 (by decide) _ rfl) ?_
  with_reducible refine q_val (.int .u64 (bits .xor .u64 (v 1) (v 6))) (by kernel_rfl) (fun _ _ => by kernel_rfl) ?_
  with_reducible refine q_val (.pointer (some ⟨V, 0, none⟩)) (by kernel_rfl) (fun _ _ => by kernel_rfl) ?_
  with_reducible refine q_val (.pointer (some ⟨V, 0, none⟩)) (by kernel_rfl) (fun _ _ => by kernel_rfl) ?_
  with_reducible refine q_val (.pointer (some ⟨V, 11, none⟩)) (by kernel_rfl) (fun _ _ => by kernel_rfl) ?_
  with_reducible refine q_load 34 (.tmp 42) (.pointer (some ⟨V, 11, none⟩)) (.int .u64 (v 11)) rfl (by kernel_rfl) (by kernel_rfl) (fun _ h => h.at' 11 (by decide) _ rfl) ?_
  with_reducible refine q_val (.int .u64 (bits .xor .u64 (bits .xor .u64 (v 1) (v 6)) (v 11))) (by kernel_rfl) (fun _ _ => by kernel_rfl) ?_
  with_reducible refine q_val (.pointer (some ⟨V, 0, none⟩)) (by kernel_rfl) (fun _ _ => by kernel_rfl) ?_
  with_reducible refine q_val (.pointer (some ⟨V, 0, none⟩)) (by kernel_rfl) (fun _ _ => by kernel_rfl) ?_
  with_reducible refine q_val (.pointer (some ⟨V, 16, none⟩)) (by kernel_rfl) (fun _ _ => by kernel_rfl) ?_
  with_reducible refine q_load 34 (.tmp 47) (.pointer (some ⟨V, 16, none⟩)) (.int .u64 (v 16)) rfl (by kernel_rfl) (by kernel_rfl) (fun _ h => h.at' 16 (by decide) _ rfl) ?_
  with_reducible refine q_val (.int .u64 (bits .xor .u64 (bits .xor .u64 (bits .xor .u64 (v 1) (v 6)) (v 11)) (v 16))) (by kernel_rfl) (fun _ _ => by kernel_rfl) ?_
  with_reducible refine q_val (.pointer (some ⟨V, 0, none⟩)) (by kernel_rfl) (fun _ _ => by kernel_rfl) ?_
  with_reducible refine q_val (.pointer (some ⟨V, 0, none⟩)) (by kernel_rfl) (fun _ _ => by kernel_rfl) ?_
  with_reducible refine q_val (.pointer (some ⟨V, 21, none⟩)) (by kernel_rfl) (fun _ _ => by kernel_rfl) ?_
  with_reducible refine q_load 34 (.tmp 52) (.pointer (some ⟨V, 21, none⟩)) (.int .u64 (v 21)) rfl (by kernel_rfl) (by kernel_rfl) (fun _ h => h.at' 21 (by decide) _ rfl) ?_
  with_reducible refine q_val (.int .u64 (bits .xor .u64 (bits .xor .u64 (bits .xor .u64 (bits .xor .u64 (v 1) (v 6)) (v 11)) (v 16)) (v 21))) (by kernel_rfl) (fun _ _ => by kernel_rfl) ?_
  with_reducible refine q_val (.int .u64 (bits .xor .u64 (bits .xor .u64 (bits .xor .u64 (bits .xor .u64 (v 1) (v 6)) (v 11)) (v 16)) (v 21))) (by kernel_rfl) (fun _ _ => by kernel_rfl) ?_
  with_reducible refine wpQuiet_nil ?_
  intro w2 hC2
  clear H0
  have H0 := Lib.hid hC2
  clear hC2
  simp only [Act.put, List.setIfInBounds_toArray, List.set_cons_succ, List.set_cons_zero]
  have e1 : bits .xor .u64 (bits .xor .u64 (bits .xor .u64 (bits .xor .u64 (v 1) (v 6)) (v 11)) (v 16)) (v 21) = kcl v 1 := rfl
  rw [e1]
  clear e1
  obtain ⟨K1, hK1⟩ : ∃ z, kcl v 1 = z := ⟨_, rfl⟩
  rw [hK1]
  -- region 2
  go_wp2_with fail
  refine wp_region_quiet (C := CK w V tt tl v) (by kernel_rfl) (by kernel_rfl) H0.out.drew ?_
  with_reducible refine q_val (.pointer (some ⟨V, 0, none⟩)) (by kernel_rfl) (fun _ _ => by kernel_rfl) ?_
  with_reducible refine q_val (.pointer (some ⟨V, 0, none⟩)) (by kernel_rfl) (fun _ _ => by kernel_rfl) ?_
  with_reducible refine q_val (.pointer (some ⟨V, 2, none⟩)) (by kernel_rfl) (fun _ _ => by kernel_rfl) ?_
  with_reducible refine q_load 34 (.tmp 57) (.pointer (some ⟨V, 2, none⟩)) (.int .u64 (v 2)) rfl (by kernel_rfl) (by kernel_rfl) (fun _ h => h.at' 2 (by decide) _ rfl) ?_
  with_reducible refine q_val (.pointer (some ⟨V, 0, none⟩)) (by kernel_rfl) (fun _ _ => by kernel_rfl) ?_
  with_reducible refine q_val (.pointer (some ⟨V, 0, none⟩)) (by kernel_rfl) (fun _ _ => by kernel_rfl) ?_
  with_reducible refine q_val (.pointer (some ⟨V, 7, none⟩)) (by kernel_rfl) (fun _ _ => by kernel_rfl) ?_
  with_reducible refine q_load 34 (.tmp 61) (.pointer (some ⟨V, 7, none⟩)) (.int .u64 (v 7)) rfl (by kernel_rfl) (by kernel_rfl) (fun _ h => h.at' 7 (by decide) _ rfl) ?_
  with_reducible refine q_val (.int .u64 (bits .xor .u64 (v 2) (v 7))) (by kernel_rfl) (fun _ _ => by kernel_rfl) ?_
  with_reducible refine q_val (.pointer (some ⟨V, 0, none⟩)) (by kernel_rfl) (fun _ _ => by kernel_rfl) ?_
  with_reducible refine q_val (.pointer (some ⟨V, 0, none⟩)) (by kernel_rfl) (fun _ _ => by kernel_rfl) ?_
  with_reducible refine q_val (.pointer (some ⟨V, 12, none⟩)) (by kernel_rfl) (fun _ _ => by kernel_rfl) ?_
  with_reducible refine q_load 34 (.tmp 66) (.pointer (some ⟨V, 12, none⟩)) (.int .u64 (v 12)) rfl (by kernel_rfl) (by kernel_rfl) (fun _ h => h.at' 12 (by decide) _ rfl) ?_
  with_reducible refine q_val (.int .u64 (bits .xor .u64 (bits .xor .u64 (v 2) (v 7)) (v 12))) (by kernel_rfl) (fun _ _ => by kernel_rfl) ?_
  with_reducible refine q_val (.pointer (some ⟨V, 0, none⟩)) (by kernel_rfl) (fun _ _ => by kernel_rfl) ?_
  with_reducible refine q_val (.pointer (some ⟨V, 0, none⟩)) (by kernel_rfl) (fun _ _ => by kernel_rfl) ?_
  with_reducible refine q_val (.pointer (some ⟨V, 17, none⟩)) (by kernel_rfl) (fun _ _ => by kernel_rfl) ?_
  with_reducible refine q_load 34 (.tmp 71) (.pointer (some ⟨V, 17, none⟩)) (.int .u64 (v 17)) rfl (by kernel_rfl) (by kernel_rfl) (fun _ h => h.at' 17 (by decide) _ rfl) ?_
  with_reducible refine q_val (.int .u64 (bits .xor .u64 (bits .xor .u64 (bits .xor .u64 (v 2) (v 7)) (v 12)) (v 17))) (by kernel_rfl) (fun _ _ => by kernel_rfl) ?_
  with_reducible refine q_val (.pointer (some ⟨V, 0, none⟩)) (by kernel_rfl) (fun _ _ => by kernel_rfl) ?_
  with_reducible refine q_val (.pointer (some ⟨V, 0, none⟩)) (by kernel_rfl) (fun _ _ => by kernel_rfl) ?_
  with_reducible refine q_val (.pointer (some ⟨V, 22, none⟩)) (by kernel_rfl) (fun _ _ => by kernel_rfl) ?_
  with_reducible refine q_load 34 (.tmp 76) (.pointer (some ⟨V, 22, none⟩)) (.int .u64 (v 22)) rfl (by kernel_rfl) (by kernel_rfl) (fun _ h => h.at' 22 (by decide) _ rfl) ?_
  with_reducible refine q_val (.int .u64 (bits .xor .u64 (bits .xor .u64 (bits .xor .u64 (bits .xor .u64 (v 2) (v 7)) (v 12)) (v 17)) (v 22))) (by kernel_rfl) (fun _ _ => by kernel_rfl) ?_
  with_reducible refine q_val (.int .u64 (bits .xor .u64 (bits .xor .u64 (bits .xor .u64 (bits .xor .u64 (v 2) (v 7)) (v 12)) (v 17)) (v 22))) (by kernel_rfl) (fun _ _ => by kernel_rfl) ?_
  with_reducible refine wpQuiet_nil ?_
  intro w3 hC3
  clear H0
  have H0 := Lib.hid hC3
  clear hC3
  simp only [Act.put, List.setIfInBounds_toArray, List.set_cons_succ, List.set_cons_zero]
  have e2 : bits .xor .u64 (bits .xor .u64 (bits .xor .u64 (bits .xor .u64 (v 2) (v 7)) (v 12)) (v 17)) (v 22) = kcl v 2 := rfl
  rw [e2]
  clear e2
  obtain ⟨K2, hK2⟩ : ∃ z, kcl v 2 = z := ⟨_, rfl⟩
  rw [hK2]
  -- region 3
  go_wp2_with fail
  refine wp_region_quiet (C := CK w V tt tl v) (by kernel_rfl) (by kernel_rfl) H0.out.drew ?_
  with_reducible refine q_val (.pointer (some ⟨V, 0, none⟩)) (by kernel_rfl) (fun _ _ => by kernel_rfl) ?_
  with_reducible refine q_val (.pointer (some ⟨V, 0, none⟩)) (by kernel_rfl) (fun _ _ => by kernel_rfl) ?_
  with_reducible refine q_val (.pointer (some ⟨V, 3, none⟩)) (by kernel_rfl) (fun _ _ => by kernel_rfl) ?_
  with_reducible refine q_load 34 (.tmp 81) (.pointer (some ⟨V, 3, none⟩)) (.int .u64 (v 3)) rfl (by kernel_rfl) (by kernel_rfl) (fun _ h => h.at' 3 (by decide) _ rfl) ?_
  with_reducible refine q_val (.pointer (some ⟨V, 0, none⟩)) (by kernel_rfl) (fun _ _ => by kernel_rfl) ?_
  with_reducible refine q_val (.pointer (some ⟨V, 0, none⟩)) (by kernel_rfl) (fun _ _ => by kernel_rfl) ?_
  with_reducible refine q_val (.pointer (some ⟨V, 8, none⟩)) (by kernel_rfl) (fun _ _ => by kernel_rfl) ?_
  with_reducible refine q_load 34 (.tmp 85) (.pointer (some ⟨V, 8, none⟩)) (.int .u64 (v 8)) rfl (by kernel_rfl) (by kernel_rfl) (fun _ h => h.at' 8 (by decide) _ rfl) ?_
  with_reducible refine q_val (.int .u64 (bits .xor .u64 (v 3) (v 8))) (by kernel_rfl) (fun _ _ => by kernel_rfl) ?_
  with_reducible refine q_val (.pointer (some ⟨V, 0, none⟩)) (by kernel_rfl) (fun _ _ => by kernel_rfl) ?_
  with_reducible refine q_val (.pointer (some ⟨V, 0, none⟩)) (by kernel_rfl) (fun _ _ => by kernel_rfl) ?_
  with_reducible refine q_val (.pointer (some ⟨V, 13, none⟩)) (by kernel_rfl) (fun _ _ => by kernel_rfl) ?_
  with_reducible refine q_load 34 (.tmp 90) (.pointer (some ⟨V, 13, none⟩)) (.int .u64 (v 13)) rfl (by kernel_rfl) (by kernel_rfl) (fun _ h => h.at' 13 (by decide) _ rfl) ?_
  with_reducible refine q_val (.int .u64 (bits .xor .u64 (bits .xor .u64 (v 3) (v 8)) (v 13))) (by kernel_rfl) (fun _ _ => by kernel_rfl) ?_
  with_reducible refine q_val (.pointer (some ⟨V, 0, none⟩)) (by kernel_rfl) (fun _ _ => by kernel_rfl) ?_
  with_reducible refine q_val (.pointer (some ⟨V, 0, none⟩)) (by kernel_rfl) (fun _ _ => by kernel_rfl) ?_
  with_reducible refine q_val (.pointer (some ⟨V, 18, none⟩)) (by kernel_rfl) (fun _ _ => by kernel_rfl) ?_
  with_reducible refine q_load 34 (.tmp 95) (.pointer (some ⟨V, 18, none⟩)) (.int .u64 (v 18)) rfl (by kernel_rfl) (by kernel_rfl) (fun _ h => h.at' 18 (by decide) _ rfl) ?_
  with_reducible refine q_val (.int .u64 (bits .xor .u64 (bits .xor .u64 (bits .xor .u64 (v 3) (v 8)) (v 13)) (v 18))) (by kernel_rfl) (fun _ _ => by kernel_rfl) ?_
  with_reducible refine q_val (.pointer (some ⟨V, 0, none⟩)) (by kernel_rfl) (fun _ _ => by kernel_rfl) ?_
  with_reducible refine q_val (.pointer (some ⟨V, 0, none⟩)) (by kernel_rfl) (fun _ _ => by kernel_rfl) ?_
  with_reducible refine q_val (.pointer (some ⟨V, 23, none⟩)) (by kernel_rfl) (fun _ _ => by kernel_rfl) ?_
  with_reducible refine q_load 34 (.tmp 100) (.pointer (some ⟨V, 23, none⟩)) (.int .u64 (v 23)) rfl (by kernel_rfl) (by kernel_rfl) (fun _ h => h.at' 23 (by decide) _ rfl) ?_
  with_reducible refine q_val (.int .u64 (bits .xor .u64 (bits .xor .u64 (bits .xor .u64 (bits .xor .u64 (v 3) (v 8)) (v 13)) (v 18)) (v 23))) (by kernel_rfl) (fun _ _ => by kernel_rfl) ?_
  with_reducible refine q_val (.int .u64 (bits .xor .u64 (bits .xor .u64 (bits .xor .u64 (bits .xor .u64 (v 3) (v 8)) (v 13)) (v 18)) (v 23))) (by kernel_rfl) (fun _ _ => by kernel_rfl) ?_
  with_reducible refine wpQuiet_nil ?_
  intro w4 hC4
  clear H0
  have H0 := Lib.hid hC4
  clear hC4
  simp only [Act.put, List.setIfInBounds_toArray, List.set_cons_succ, List.set_cons_zero]
  have e3 : bits .xor .u64 (bits .xor .u64 (bits .xor .u64 (bits .xor .u64 (v 3) (v 8)) (v 13)) (v 18)) (v 23) = kcl v 3 := rfl
  rw [e3]
  clear e3
  obtain ⟨K3, hK3⟩ : ∃ z, kcl v 3 = z := ⟨_, rfl⟩
  rw [hK3]
  -- region 4
  go_wp2_with fail
  refine wp_region_quiet (C := CK w V tt tl v) (by kernel_rfl) (by kernel_rfl) H0.out.drew ?_
  with_reducible refine q_val (.pointer (some ⟨V, 0, none⟩)) (by kernel_rfl) (fun _ _ => by kernel_rfl) ?_
  with_reducible refine q_val (.pointer (some ⟨V, 0, none⟩)) (by kernel_rfl) (fun _ _ => by kernel_rfl) ?_
  with_reducible refine q_val (.pointer (some ⟨V, 4, none⟩)) (by kernel_rfl) (fun _ _ => by kernel_rfl) ?_
  with_reducible refine q_load 34 (.tmp 105) (.pointer (some ⟨V, 4, none⟩)) (.int .u64 (v 4)) rfl (by kernel_rfl) (by kernel_rfl) (fun _ h => h.at' 4 (by decide) _ rfl) ?_
  with_reducible refine q_val (.pointer (some ⟨V, 0, none⟩)) (by kernel_rfl) (fun _ _ => by kernel_rfl) ?_
  with_reducible refine q_val (.pointer (some ⟨V, 0, none⟩)) (by kernel_rfl) (fun _ _ => by kernel_rfl) ?_
  with_reducible refine q_val (.pointer (some ⟨V, 9, none⟩)) (by kernel_rfl) (fun _ _ => by kernel_rfl) ?_
  with_reducible refine q_load 34 (.tmp 109) (.pointer (some ⟨V, 9, none⟩)) (.int .u64 (v 9)) rfl (by kernel_rfl) (by kernel_rfl) (fun _ h => h.at' 9 (by decide) _ rfl) ?_
  with_reducible refine q_val (.int .u64 (bits .xor .u64 (v 4) (v 9))) (by kernel_rfl) (fun _ _ => by kernel_rfl) ?_
  with_reducible refine q_val (.pointer (some ⟨V, 0, none⟩)) (by kernel_rfl) (fun _ _ => by kernel_rfl) ?_
  with_reducible refine q_val (.pointer (some ⟨V, 0, none⟩)) (by kernel_rfl) (fun _ _ => by kernel_rfl) ?_
  with_reducible refine q_val (.pointer (some ⟨V, 14, none⟩)) (by kernel_rfl) (fun _ _ => by kernel_rfl) ?_
  with_reducible refine q_load 34 (.tmp 114) (.pointer (some ⟨V, 14, none⟩)) (.int .u64 (v 14)) rfl (by kernel_rfl) (by kernel_rfl) (fun _ h => h.at' 14 (by decide) _ rfl) ?_
  with_reducible refine q_val (.int .u64 (bits .xor .u64 (bits .xor .u64 (v 4) (v 9)) (v 14))) (by kernel_rfl) (fun _ _ => by kernel_rfl) ?_
  with_reducible refine q_val (.pointer (some ⟨V, 0, none⟩)) (by kernel_rfl) (fun _ _ => by kernel_rfl) ?_
  with_reducible refine q_val (.pointer (some ⟨V, 0, none⟩)) (by kernel_rfl) (fun _ _ => by kernel_rfl) ?_
  with_reducible refine q_val (.pointer (some ⟨V, 19, none⟩)) (by kernel_rfl) (fun _ _ => by kernel_rfl) ?_
  with_reducible refine q_load 34 (.tmp 119) (.pointer (some ⟨V, 19, none⟩)) (.int .u64 (v 19)) rfl (by kernel_rfl) (by kernel_rfl) (fun _ h => h.at' 19 (by decide) _ rfl) ?_
  with_reducible refine q_val (.int .u64 (bits .xor .u64 (bits .xor .u64 (bits .xor .u64 (v 4) (v 9)) (v 14)) (v 19))) (by kernel_rfl) (fun _ _ => by kernel_rfl) ?_
  with_reducible refine q_val (.pointer (some ⟨V, 0, none⟩)) (by kernel_rfl) (fun _ _ => by kernel_rfl) ?_
  with_reducible refine q_val (.pointer (some ⟨V, 0, none⟩)) (by kernel_rfl) (fun _ _ => by kernel_rfl) ?_
  with_reducible refine q_val (.pointer (some ⟨V, 24, none⟩)) (by kernel_rfl) (fun _ _ => by kernel_rfl) ?_
  with_reducible refine q_load 34 (.tmp 124) (.pointer (some ⟨V, 24, none⟩)) (.int .u64 (v 24)) rfl (by kernel_rfl) (by kernel_rfl) (fun _ h => h.at' 24 (by decide) _ rfl) ?_
  with_reducible refine q_val (.int .u64 (bits .xor .u64 (bits .xor .u64 (bits .xor .u64 (bits .xor .u64 (v 4) (v 9)) (v 14)) (v 19)) (v 24))) (by kernel_rfl) (fun _ _ => by kernel_rfl) ?_
  with_reducible refine q_val (.int .u64 (bits .xor .u64 (bits .xor .u64 (bits .xor .u64 (bits .xor .u64 (v 4) (v 9)) (v 14)) (v 19)) (v 24))) (by kernel_rfl) (fun _ _ => by kernel_rfl) ?_
  with_reducible refine wpQuiet_nil ?_
  intro w5 hC5
  clear H0
  have H0 := Lib.hid hC5
  clear hC5
  simp only [Act.put, List.setIfInBounds_toArray, List.set_cons_succ, List.set_cons_zero]
  have e4 : bits .xor .u64 (bits .xor .u64 (bits .xor .u64 (bits .xor .u64 (v 4) (v 9)) (v 14)) (v 19)) (v 24) = kcl v 4 := rfl
  rw [e4]
  clear e4
  obtain ⟨K4, hK4⟩ : ∃ z, kcl v 4 = z := ⟨_, rfl⟩
  rw [hK4]
  -- region 5
  go_wp2_with fail
  refine (rotl 1 (by decide) K1 _).mono ?_
  rintro e w' ⟨rfl, rfl⟩
  go_wp2_with fail
  have e0 : bits .xor .u64 K4 (rul 1 K1) = kds v 0 := by rw [← hK4, ← hK1]; rfl
  rw [e0]
  refine (xcol0 (kds v 0) _ H0.out.row).mono ?_
  rintro e u ⟨rfl, h⟩
  have G0 := Lib.hid (show CK w V tt tl _ u from ⟨H0.out.but.trans h.but, h.row⟩)
  clear h e0
  -- region 6
  go_wp2_with fail
  refine (rotl 1 (by decide) K2 _).mono ?_
  rintro e w' ⟨rfl, rfl⟩
  go_wp2_with fail
  have e1 : bits .xor .u64 K0 (rul 1 K2) = kds v 1 := by rw [← hK0, ← hK2]; rfl
  rw [e1]
  refine (xcol1 (kds v 1) _ G0.out.row).mono ?_
  rintro e u ⟨rfl, h⟩
  have G1 := Lib.hid (show CK w V tt tl _ u from ⟨G0.out.but.trans h.but, h.row⟩)
  clear h e1
  -- region 7
  go_wp2_with fail
  refine (rotl 1 (by decide) K3 _).mono ?_
  rintro e w' ⟨rfl, rfl⟩
  go_wp2_with fail
  have e2 : bits .xor .u64 K1 (rul 1 K3) = kds v 2 := by rw [← hK1, ← hK3]; rfl
  rw [e2]
  refine (xcol2 (kds v 2) _ G1.out.row).mono ?_
  rintro e u ⟨rfl, h⟩
  have G2 := Lib.hid (show CK w V tt tl _ u from ⟨G1.out.but.trans h.but, h.row⟩)
  clear h e2
  -- region 8
  go_wp2_with fail
  refine (rotl 1 (by decide) K4 _).mono ?_
  rintro e w' ⟨rfl, rfl⟩
  go_wp2_with fail
  have e3 : bits .xor .u64 K2 (rul 1 K4) = kds v 3 := by rw [← hK2, ← hK4]; rfl
  rw [e3]
  refine (xcol3 (kds v 3) _ G2.out.row).mono ?_
  rintro e u ⟨rfl, h⟩
  have G3 := Lib.hid (show CK w V tt tl _ u from ⟨G2.out.but.trans h.but, h.row⟩)
  clear h e3
  -- region 9
  go_wp2_with fail
  refine (rotl 1 (by decide) K0 _).mono ?_
  rintro e w' ⟨rfl, rfl⟩
  go_wp2_with fail
  have e4 : bits .xor .u64 K3 (rul 1 K0) = kds v 4 := by rw [← hK3, ← hK0]; rfl
  rw [e4]
  refine (xcol4 (kds v 4) _ G3.out.row).mono ?_
  rintro e u ⟨rfl, h⟩
  have G4 := Lib.hid (show CK w V tt tl _ u from ⟨G3.out.but.trans h.but, h.row⟩)
  clear h e4
  have G5 := G4.out
  rw [kth_eq] at G5
  go_wp2_with fail
  go_end0
  exact ⟨rfl, G5⟩
end Go.Proofs.YtcmpnnfnkcmpcaaDoor

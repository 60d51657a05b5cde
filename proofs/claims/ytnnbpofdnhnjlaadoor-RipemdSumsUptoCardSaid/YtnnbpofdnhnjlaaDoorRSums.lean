/- bailiwicklaw05.RipemdSums answers true, whatever the bytes, up to a size. -/
import Derived.Test.YtnnbpofdnhnjlaaDoorRLiv
import Derived.Test.YtnnbpofdnhnjlaaDoorRRSum
namespace Go.Proofs.YtnnbpofdnhnjlaaDoor
open Go.RowKit

set_option maxRecDepth 100000 in
set_option maxHeartbeats 4000000 in
theorem sums_any {n : Nat} {f : Nat → Nat} {v : Value} {w : World} (hn : n < 1048577) (hf : ∀ j, f j < 256) (hT : Tabs w) (hP : ArgB w v n f) : Calls Tryd.prog 8 #[v] w fun e w' => e = .returned (.bool true) ∧ Below w.heap.size w w' := by
  have HP := Lib.hid hP
  obtain ⟨ad, cap, rfl, hc, -, -⟩ := hP
  have hmade := World.ownsRow_made (base := w.heap.size) (e := 5) (size := 1) w #[] 0 (by simp) (by decide) (by simp)
  have ha : Below w.heap.size w (w.alloc (.cells #[] 5)) := (Below.refl _ _).alloc (Nat.le_refl _) _
  obtain ⟨v', w', hr, hown, hs, hg⟩ := copy_own (k := 0) (g := fun _ => 0) (by simpa [p8] using hmade) ⟨_, _, rfl⟩ (HP.out.below ha) (by omega) (by simp) 22
  rw [Nat.zero_add] at hown
  have hb := ha.grown hg (by simp) (fun j hj => by cases hj; exact Nat.le_refl _)
  have ho : Own8 w.heap.size f n v' w' := by simpa [Own8, p8] using hown
  have S1 := Lib.hid (sum_any (by omega) hf (hT.below hb) (own_arg ho))
  have S2 := Lib.hid (fun wx (h : Below w.heap.size w wx) => rsum_any hn hf (HP.out.below h))
  have LV := Lib.hid (fun wx (h : Below w.heap.size w wx) => lives_any wx (hT.below h))
  have HR := Lib.hid hr
  have HB := Lib.hid hb
  clear hmade ha hr hown hg hb ho hs hT
  obtain ⟨r, hrr⟩ : ∃ r, rsum f n = r := ⟨_, rfl⟩
  rw [hrr] at S1 S2
  clear hrr hf HP
  have heq : ∀ w, (binOp BinOp.eql 43 (.agg (ar .u8 20 r)) (.agg (ar .u8 20 r))).run Tryd.prog w = .ok (.bool true) w := fun w => eqb20 r w
  go_enter Tryd.func8, Tryd.ntmps8
  go_wp2_with (at_builtin; refine Go.Lib.wpList_append_run _ rfl _ _ 22 22 rfl _ _ rfl rfl _ _ HR.out ?_)
  refine S1.out.mono ?_
  rintro e w2 ⟨rfl, hb⟩
  replace HB := Lib.hid (HB.out.trans (hb.mono HB.out.size))
  clear hb
  go_wp2_with fail
  refine (S2.out _ HB.out).mono ?_
  rintro e w3 ⟨rfl, hb⟩
  replace HB := Lib.hid (HB.out.trans (hb.mono HB.out.size))
  clear hb
  go_wp2_with fail
  refine (LV.out _ HB.out).mono ?_
  rintro e w4 ⟨rfl, hb⟩
  replace HB := Lib.hid (HB.out.trans (hb.mono HB.out.size))
  clear hb
  go_wp2_with fail
  go_ret
  exact ⟨rfl, HB.out⟩
end Go.Proofs.YtnnbpofdnhnjlaaDoor

/- The reference's Pack: what it comes to. -/
import Derived.Test.YtaopmcpihdcaiaaNRBytes
namespace Go.Proofs.Ytaopmcpihdcaiaa
open Go.RowKit

theorem own_lit {base : Nat} (w : World) (cur : Array Value) (k : Nat) (hb : base ≤ w.heap.size) (hm : k ≤ maxLen) (hs : cur.size = k) : (w.alloc (.cells cur 5)).ownsRow base 5 1 (.slice (some ⟨w.heap.size, 0, none⟩) k k) k cur.toList :=
  ⟨by simp [hs], .inr ⟨w.heap.size, k, cur, rfl, hb, heap_alloc_new w _, Nat.le_refl _, hm, by simp [hs], by rw [Nat.mul_one, ← hs, ← Array.length_toList, List.take_length]⟩⟩
theorem bytesA_pack {w w2 : World} {n k : Nat} {f h : Nat → Nat} {l : Bool} {e : Ending} {w3 : World} (hb : Below w.heap.size w w2) (hk : (k + n) % 2 = 0) (hk2 : (k + n) / 2 = 1 + n / 2) (hh : ∀ j, j < k + n → h j = pnib n f l j) (hf : ∀ j, j < n → pnib n f l (k + j) = f j) (hk3 : ∀ j, j < k → pnib n f l j ≤ 3) (hB : BytesA w2 (k + n) h e w3) : PackA w n f l e w3 := by
  have hfit : fitB (k + n) h = fitB n f := by
    unfold fitB
    apply decide_eq_decide.2
    constructor
    · intro hq j hj
      have := hq (k + j) (by omega)
      rw [hh _ (by omega), hf j hj] at this
      exact this
    · intro hq j hj
      rw [hh j hj]
      by_cases hj2 : j < k
      · have := hk3 j hj2
        omega
      · have e1 : j = k + (j - k) := by omega
        rw [e1, hf _ (by omega)]
        exact hq _ (by omega)
  have hok : okN (k + n) h = fitB n f := by
    unfold okN
    rw [hfit]
    simp [hk]
  obtain ⟨hA, hbl⟩ := hB
  refine ⟨?_, hb.trans (hbl.mono hb.size)⟩
  rcases hA with ⟨h1, v, rfl, hv⟩ | ⟨h1, rfl⟩
  · refine .inl ⟨by rw [← hok]; exact h1, v, rfl, ?_⟩
    rw [hk2] at hv
    obtain ⟨a, c, e1, e2, e3, e4⟩ := hv
    refine ⟨a, c, e1, e2, e3, ?_⟩
    rcases e4 with e4 | ⟨b, o, e5, e6, e7⟩
    · exact .inl e4
    · refine .inr ⟨b, o, e5, e6, fun j hj => ?_⟩
      rw [e7 j hj]
      unfold jn
      rw [hh _ (by omega), hh _ (by omega)]
  · exact .inr ⟨by rw [← hok]; exact h1, rfl⟩
theorem bytesA_tuple {w w' : World} {n : Nat} {f : Nat → Nat} {e : Ending} (h : BytesA w n f e w') : ∃ u1 u2, e = .returned (.tuple #[u1, u2]) := by
  rcases h.1 with ⟨-, v, rfl, -⟩ | ⟨-, rfl⟩
  · exact ⟨_, _, rfl⟩
  · exact ⟨_, _, rfl⟩
set_option maxRecDepth 100000 in
set_option maxHeartbeats 4000000 in
theorem rpack_any {n : Nat} {f : Nat → Nat} {v : Value} {l : Bool} {w : World} (hn : n ≤ 3000000) (hP : ArgB w v n f) : Calls Try.prog 12 #[v, .bool l] w (PackA w n f l) := by
  have HP := Lib.hid hP
  obtain ⟨a, cap, rfl, hc, hn0, hr⟩ := hP
  clear hr hn0 hc
  by_cases hev : n % 2 = 1
  · have hev' : ((n : Int) % 2 == 1) = true := by simp; omega
    cases l with
    | false =>
      have hmade := own_lit (base := w.heap.size) (w.alloc (.cells #[.int .u8 0, .int .u8 0] 5)) #[.int .u8 1] 1 (by simp) (by decide) (by simp)
      have hb1 : Below w.heap.size w ((w.alloc (.cells #[.int .u8 0, .int .u8 0] 5)).alloc (.cells #[.int .u8 1] 5)) := by go_grown
      have hmade2 : ((w.alloc (.cells #[.int .u8 0, .int .u8 0] 5)).alloc (.cells #[.int .u8 1] 5)).ownsRow w.heap.size 5 1 (.slice (some ⟨w.heap.size + 1, 0, none⟩) 1 1) 1 (p8 (fun j => if j = 0 then 1 else 0) 1) := by simpa [p8, List.range_succ] using hmade
      obtain ⟨v', w', hr, hown, hs, hg⟩ := copy_own (k := 1) (g := (fun j => if j = 0 then 1 else 0)) hmade2 ⟨_, _, rfl⟩ (HP.out.below hb1) (by omega) hb1.size 22
      have hb2 := hb1.grown hg hb1.size (fun j hj => (hmade2.lt j hj).1)
      have hown2 : Own8 w.heap.size (catF 1 (fun j => if j = 0 then 1 else 0) f) (1 + n) v' w' := by
        unfold Own8
        rw [← p8_catF]
        exact hown
      have HB := Lib.hid (rbytes_any (n := 1 + n) (f := catF 1 (fun j => if j = 0 then 1 else 0) f) (by omega) (own_arg hown2))
      have HBL := Lib.hid hb2
      have HR := Lib.hid hr
      have HE := Lib.hid hev
      clear hmade hb1 hmade2 hr hown hs hg hb2 hown2 hev
      go_enter Try.func12, Try.ntmps12
      go_wp2_with (first | (at_builtin; refine Go.Lib.wpList_append_run _ rfl _ _ 22 22 rfl _ _ rfl rfl _ _ HR.out ?_) | (go_at_call 8; refine HB.out.mono ?_; intro e w3 h3; obtain ⟨u1, u2, rfl⟩ := bytesA_tuple h3; have H3 := Lib.hid h3; clear h3))
      go_ret2
      refine bytesA_pack (k := 1) HBL.out (by have := HE.out; omega) (by have := HE.out; omega) (fun j hj => ?_) (fun j hj => ?_) (fun j hj => ?_) H3.out
      · have := HE.out
        unfold catF pnib
        rw [if_neg (show ¬ n % 2 = 0 by omega)]
        by_cases h0 : j = 0
        · subst h0
          simp [lf]
        · rw [if_neg (by omega), if_neg h0]
      · have := HE.out
        unfold pnib
        rw [if_neg (show ¬ n % 2 = 0 by omega), if_neg (by omega), show 1 + j - 1 = j by omega]
      · have := HE.out
        unfold pnib lf
        split <;> (try split) <;> (try split) <;> simp_all <;> omega
    | true =>
      have hmade := own_lit (base := w.heap.size) (w.alloc (.cells #[.int .u8 0, .int .u8 0] 5)) #[.int .u8 3] 1 (by simp) (by decide) (by simp)
      have hb1 : Below w.heap.size w ((w.alloc (.cells #[.int .u8 0, .int .u8 0] 5)).alloc (.cells #[.int .u8 3] 5)) := by go_grown
      have hmade2 : ((w.alloc (.cells #[.int .u8 0, .int .u8 0] 5)).alloc (.cells #[.int .u8 3] 5)).ownsRow w.heap.size 5 1 (.slice (some ⟨w.heap.size + 1, 0, none⟩) 1 1) 1 (p8 (fun j => if j = 0 then 3 else 0) 1) := by simpa [p8, List.range_succ] using hmade
      obtain ⟨v', w', hr, hown, hs, hg⟩ := copy_own (k := 1) (g := (fun j => if j = 0 then 3 else 0)) hmade2 ⟨_, _, rfl⟩ (HP.out.below hb1) (by omega) hb1.size 22
      have hb2 := hb1.grown hg hb1.size (fun j hj => (hmade2.lt j hj).1)
      have hown2 : Own8 w.heap.size (catF 1 (fun j => if j = 0 then 3 else 0) f) (1 + n) v' w' := by
        unfold Own8
        rw [← p8_catF]
        exact hown
      have HB := Lib.hid (rbytes_any (n := 1 + n) (f := catF 1 (fun j => if j = 0 then 3 else 0) f) (by omega) (own_arg hown2))
      have HBL := Lib.hid hb2
      have HR := Lib.hid hr
      have HE := Lib.hid hev
      clear hmade hb1 hmade2 hr hown hs hg hb2 hown2 hev
      go_enter Try.func12, Try.ntmps12
      go_wp2_with (first | (at_builtin; refine Go.Lib.wpList_append_run _ rfl _ _ 22 22 rfl _ _ rfl rfl _ _ HR.out ?_) | (go_at_call 8; refine HB.out.mono ?_; intro e w3 h3; obtain ⟨u1, u2, rfl⟩ := bytesA_tuple h3; have H3 := Lib.hid h3; clear h3))
      go_ret2
      refine bytesA_pack (k := 1) HBL.out (by have := HE.out; omega) (by have := HE.out; omega) (fun j hj => ?_) (fun j hj => ?_) (fun j hj => ?_) H3.out
      · have := HE.out
        unfold catF pnib
        rw [if_neg (show ¬ n % 2 = 0 by omega)]
        by_cases h0 : j = 0
        · subst h0
          simp [lf]
        · rw [if_neg (by omega), if_neg h0]
      · have := HE.out
        unfold pnib
        rw [if_neg (show ¬ n % 2 = 0 by omega), if_neg (by omega), show 1 + j - 1 = j by omega]
      · have := HE.out
        unfold pnib lf
        split <;> (try split) <;> (try split) <;> simp_all <;> omega
  · have hev' : ((n : Int) % 2 == 1) = false := by simp; omega
    cases l with
    | false =>
      have hmade := own_lit (base := w.heap.size) w #[.int .u8 0, .int .u8 0] 2 (by simp) (by decide) (by simp)
      have hb1 : Below w.heap.size w (w.alloc (.cells #[.int .u8 0, .int .u8 0] 5)) := by go_grown
      have hmade2 : (w.alloc (.cells #[.int .u8 0, .int .u8 0] 5)).ownsRow w.heap.size 5 1 (.slice (some ⟨w.heap.size, 0, none⟩) 2 2) 2 (p8 (fun j => if j = 0 then 0 else 0) 2) := by simpa [p8, List.range_succ] using hmade
      obtain ⟨v', w', hr, hown, hs, hg⟩ := copy_own (k := 2) (g := (fun j => if j = 0 then 0 else 0)) hmade2 ⟨_, _, rfl⟩ (HP.out.below hb1) (by omega) hb1.size 22
      have hb2 := hb1.grown hg hb1.size (fun j hj => (hmade2.lt j hj).1)
      have hown2 : Own8 w.heap.size (catF 2 (fun j => if j = 0 then 0 else 0) f) (2 + n) v' w' := by
        unfold Own8
        rw [← p8_catF]
        exact hown
      have HB := Lib.hid (rbytes_any (n := 2 + n) (f := catF 2 (fun j => if j = 0 then 0 else 0) f) (by omega) (own_arg hown2))
      have HBL := Lib.hid hb2
      have HR := Lib.hid hr
      have HE := Lib.hid hev
      clear hmade hb1 hmade2 hr hown hs hg hb2 hown2 hev
      go_enter Try.func12, Try.ntmps12
      go_wp2_with (first | (at_builtin; refine Go.Lib.wpList_append_run _ rfl _ _ 22 22 rfl _ _ rfl rfl _ _ HR.out ?_) | (go_at_call 8; refine HB.out.mono ?_; intro e w3 h3; obtain ⟨u1, u2, rfl⟩ := bytesA_tuple h3; have H3 := Lib.hid h3; clear h3))
      go_ret2
      refine bytesA_pack (k := 2) HBL.out (by have := HE.out; omega) (by have := HE.out; omega) (fun j hj => ?_) (fun j hj => ?_) (fun j hj => ?_) H3.out
      · have := HE.out
        unfold catF pnib
        rw [if_pos (show n % 2 = 0 by omega)]
        by_cases h0 : j = 0
        · subst h0
          simp [lf]
        · by_cases h1 : j = 1
          · subst h1
            simp
          · rw [if_neg (by omega), if_neg h0, if_neg h1]
      · have := HE.out
        unfold pnib
        rw [if_pos (show n % 2 = 0 by omega), if_neg (by omega), if_neg (by omega), show 2 + j - 2 = j by omega]
      · have := HE.out
        unfold pnib lf
        split <;> (try split) <;> (try split) <;> simp_all <;> omega
    | true =>
      have hmade := own_lit (base := w.heap.size) w #[.int .u8 2, .int .u8 0] 2 (by simp) (by decide) (by simp)
      have hb1 : Below w.heap.size w (w.alloc (.cells #[.int .u8 2, .int .u8 0] 5)) := by go_grown
      have hmade2 : (w.alloc (.cells #[.int .u8 2, .int .u8 0] 5)).ownsRow w.heap.size 5 1 (.slice (some ⟨w.heap.size, 0, none⟩) 2 2) 2 (p8 (fun j => if j = 0 then 2 else 0) 2) := by simpa [p8, List.range_succ] using hmade
      obtain ⟨v', w', hr, hown, hs, hg⟩ := copy_own (k := 2) (g := (fun j => if j = 0 then 2 else 0)) hmade2 ⟨_, _, rfl⟩ (HP.out.below hb1) (by omega) hb1.size 22
      have hb2 := hb1.grown hg hb1.size (fun j hj => (hmade2.lt j hj).1)
      have hown2 : Own8 w.heap.size (catF 2 (fun j => if j = 0 then 2 else 0) f) (2 + n) v' w' := by
        unfold Own8
        rw [← p8_catF]
        exact hown
      have HB := Lib.hid (rbytes_any (n := 2 + n) (f := catF 2 (fun j => if j = 0 then 2 else 0) f) (by omega) (own_arg hown2))
      have HBL := Lib.hid hb2
      have HR := Lib.hid hr
      have HE := Lib.hid hev
      clear hmade hb1 hmade2 hr hown hs hg hb2 hown2 hev
      go_enter Try.func12, Try.ntmps12
      go_wp2_with (first | (at_builtin; refine Go.Lib.wpList_append_run _ rfl _ _ 22 22 rfl _ _ rfl rfl _ _ HR.out ?_) | (go_at_call 8; refine HB.out.mono ?_; intro e w3 h3; obtain ⟨u1, u2, rfl⟩ := bytesA_tuple h3; have H3 := Lib.hid h3; clear h3))
      go_ret2
      refine bytesA_pack (k := 2) HBL.out (by have := HE.out; omega) (by have := HE.out; omega) (fun j hj => ?_) (fun j hj => ?_) (fun j hj => ?_) H3.out
      · have := HE.out
        unfold catF pnib
        rw [if_pos (show n % 2 = 0 by omega)]
        by_cases h0 : j = 0
        · subst h0
          simp [lf]
        · by_cases h1 : j = 1
          · subst h1
            simp
          · rw [if_neg (by omega), if_neg h0, if_neg h1]
      · have := HE.out
        unfold pnib
        rw [if_pos (show n % 2 = 0 by omega), if_neg (by omega), if_neg (by omega), show 2 + j - 2 = j by omega]
      · have := HE.out
        unfold pnib lf
        split <;> (try split) <;> (try split) <;> simp_all <;> omega
end Go.Proofs.Ytaopmcpihdcaiaa

/- bailiwicklaw13.NibbleHalves answers true, whatever the bytes, up to a size. -/
import Derived.Test.YtaopmcpihdcaiaaNComLaw
import Derived.Deep.DeepCutAuto
namespace Go.Proofs.Ytaopmcpihdcaiaa
open Go.RowKit

/-- An empty list just made, and bytes put behind. -/
theorem clone8 {n : Nat} {f : Nat → Nat} {v : Value} {w : World} (hn : n ≤ 100000000) (hP : ArgB w v n f) : ∃ v' w', (Builtin.append_ #[22, 22] 22 #[.slice (some ⟨w.heap.size, 0, none⟩) 0 0, v]).run Try.prog (w.alloc (.cells #[] 5)) = .ok v' w' ∧ Own8 w.heap.size f n v' w' ∧ (∃ b c, v' = .slice (some ⟨b, 0, none⟩) n c) ∧ Below w.heap.size w w' := by
  have hb : Below w.heap.size w (w.alloc (.cells #[] 5)) := by go_grown
  have hm := own_lit (base := w.heap.size) w #[] 0 (Nat.le_refl _) (by decide) (by simp)
  obtain ⟨v', w', hr, hown, hs, hg⟩ := copy_own (k := 0) (g := fun _ => 0) hm ⟨_, _, rfl⟩ (hP.below hb) (by omega) hb.size 22
  rw [Nat.zero_add] at hown hs
  exact ⟨v', w', hr, hown, hs, hb.grown hg hb.size (fun j hj => (hm.lt j hj).1)⟩
theorem strB_size (n : Nat) (f : Nat → Nat) : (strB n f).size = n := by
  unfold strB strOfNums
  simp [ByteArray.size]
theorem str_add (x y : ByteArray) (w : World) (h : x.size + y.size ≤ 9223372036854775807) : (binOp BinOp.add 9 (.string x) (.string y)).run Try.prog w = .ok (.string (x ++ y)) w := by
  go_simp
theorem eq_z (z : Int) (w : World) : (binOp BinOp.eql 24 (.int .i64 z) (.int .i64 z)).run Try.prog w = .ok (.bool true) w := by
  go_simp
theorem rof_is {n : Nat} {f : Nat → Nat} {v : Value} {w : World} (hn : n ≤ 1048576) (hf : ∀ j, f j < 256) (hP : ArgB w v n f) : Calls Try.prog 9 #[v] w fun e w' => ∃ v', e = .returned v' ∧ ArgB w' v' (2 * n) (hv f) ∧ Below w.heap.size w w' :=
  (rof_any (by omega) hf hP).mono fun e w' ⟨v', h1, h2, _, h4⟩ => ⟨v', h1, own_arg h2, h4⟩
/-- How many bytes nibbles are, and the error. -/
def bN (n : Nat) (f : Nat → Nat) : Nat := if okN n f = true then n / 2 else 0
def bE (n : Nat) (f : Nat → Nat) : Int := if okN n f = true then 0 else 4
theorem bytesA_is {w w' : World} {n : Nat} {f : Nat → Nat} {e : Ending} (h : BytesA w n f e w') : ∃ v, e = .returned (.tuple #[v, .int .i64 (bE n f)]) ∧ ArgB w' v (bN n f) (jn f) ∧ Below w.heap.size w w' := by
  obtain ⟨h1 | h1, hb⟩ := h
  · obtain ⟨h0, v, rfl, hv⟩ := h1
    exact ⟨v, by simp [bE, h0], by rw [bN, if_pos h0]; exact hv, hb⟩
  · obtain ⟨h0, rfl⟩ := h1
    exact ⟨.slice none 0 0, by simp [bE, h0], by rw [bN, if_neg (by rw [h0]; simp)]; exact ⟨none, 0, rfl, Nat.le_refl _, fun _ => rfl, .inl rfl⟩, hb⟩
theorem jn_hv (f : Nat → Nat) (j : Nat) : jn (hv f) j = f j := by
  have e1 : 2 * j / 2 = j := by omega
  have e2 : (2 * j + 1) / 2 = j := by omega
  have e3 : 2 * j % 2 = 0 := by omega
  have e4 : (2 * j + 1) % 2 = 1 := by omega
  simp only [jn, hv, e1, e2, e3, e4, if_true, show ¬ (1 = 0) by omega, if_false]
  omega
theorem ok_hv {n : Nat} {f : Nat → Nat} (hf : ∀ j, f j < 256) : okN (2 * n) (hv f) = true := by
  unfold okN fitB
  rw [Bool.and_eq_true]
  refine ⟨by simp, decide_eq_true (fun j _ => ?_)⟩
  have := hv_lt hf j
  omega
theorem hv_cat (n : Nat) (f g : Nat → Nat) (j : Nat) : hv (catF n f g) j = if j < 2 * n then hv f j else hv g (j - 2 * n) := by
  unfold hv catF
  by_cases h : j < 2 * n
  · have h2 : j / 2 < n := by omega
    simp only [h, h2, if_true]
  · have h2 : ¬ j / 2 < n := by omega
    simp only [h, h2, if_false, show (j - 2 * n) % 2 = j % 2 by omega, show (j - 2 * n) / 2 = j / 2 - n by omega]
set_option maxRecDepth 100000 in
set_option maxHeartbeats 8000000 in
theorem nhalves {n m : Nat} {f g : Nat → Nat} {u v : Value} {w : World} (hn : n ≤ 1048576) (hm : m ≤ 1048576) (hf : ∀ j, f j < 256) (hg : ∀ j, g j < 256) (hP : ArgB w u n f) (hR : ArgB w v m g) : Calls Try.prog 3 #[u, v] w fun e w' => e = .returned (.bool true) ∧ Below w.heap.size w w' := by
  have HF := Lib.hid hf
  have HG := Lib.hid hg
  have HU := Lib.hid hP
  have HV := Lib.hid hR
  obtain ⟨a, cap, rfl, -, -, -⟩ := hP
  obtain ⟨b, cap2, rfl, -, -, -⟩ := hR
  clear hf hg
  go_enter Try.func3, Try.ntmps3
  go_upto_region 2 with (first | (at_builtin; obtain ⟨v', w', hr, ho, ⟨g1, c1, rfl⟩, hb⟩ := clone8 (show n ≤ 100000000 by omega) HU.out; refine Go.Lib.wpList_append_run _ rfl _ _ 22 22 rfl _ _ rfl rfl _ _ hr ?_; have H1 := Lib.hid (And.intro ho hb); clear hr ho hb) | (go_at_call 6; refine (of_any (n := n) (f := f) (by omega) HF.out (own_arg H1.out.1)).mono ?_; rintro e w2 ⟨v5, rfl, ho, -, hb⟩; have H2 := Lib.hid (And.intro (own_arg ho) (H1.out.2.trans (hb.mono H1.out.2.size))); clear ho hb H1))
  go_upto_region 3 with (go_at_call 7; refine (bytes_any (by omega) H2.out.1).mono ?_; intro e w3 h; obtain ⟨v6, rfl, hv6, hb⟩ := bytesA_is h; have H3 := Lib.hid (And.intro hv6 (H2.out.2.trans (hb.mono H2.out.2.size))); have H5 := Lib.hid (H2.out.1.below hb); clear h hv6 hb H2)
  go_upto_region 4 with (first | (at_builtin; obtain ⟨v', w', hr, ho, ⟨g1, c1, rfl⟩, hb⟩ := clone8 (show m ≤ 100000000 by omega) (HV.out.below H3.out.2); refine Go.Lib.wpList_append_run _ rfl _ _ 22 22 rfl _ _ rfl rfl _ _ hr ?_; have H4 := Lib.hid (And.intro ho hb); clear hr ho hb) | (go_at_call 7; refine (bytes_any (n := m) (f := g) (by omega) (own_arg H4.out.1)).mono ?_; intro e w4 h; obtain ⟨v8, rfl, hv8, hb⟩ := bytesA_is h; have hb' := H4.out.2.trans (hb.mono H4.out.2.size); have H8 := Lib.hid (And.intro hv8 (H3.out.2.trans (hb'.mono H3.out.2.size))); have H6 := Lib.hid (H3.out.1.below hb'); replace H5 := Lib.hid (H5.out.below hb'); clear h hv8 hb hb' H3 H4))
  go_upto_region 5 with (go_at_call 8; refine (rbytes_any (n := m) (f := g) (by omega) (HV.out.below H8.out.2)).mono ?_; intro e w5 h; obtain ⟨v10, rfl, hv10, hb⟩ := bytesA_is h; have H10 := Lib.hid (And.intro hv10 (H8.out.2.trans (hb.mono H8.out.2.size))); replace H8 := Lib.hid (H8.out.1.below hb); replace H6 := Lib.hid (H6.out.below hb); replace H5 := Lib.hid (H5.out.below hb); clear h hv10 hb)
  go_upto_region 6 with (first | (at_builtin; obtain ⟨v', w', hr, ho, ⟨g1, c1, rfl⟩, hb⟩ := clone8 (show n ≤ 100000000 by omega) (HU.out.below H10.out.2); refine Go.Lib.wpList_append_run _ rfl _ _ 22 22 rfl _ _ rfl rfl _ _ hr ?_; have H11 := Lib.hid (And.intro ho hb); clear hr ho hb) | (at_builtin; obtain ⟨v', w', hr, ho, hs, hg2⟩ := copy_own (k := n) (g := f) H11.out.1 ⟨_, _, rfl⟩ (HV.out.below (H10.out.2.trans (H11.out.2.mono H10.out.2.size))) (by omega) H11.out.2.size 22; refine Go.Lib.wpList_append_run _ rfl _ _ 22 22 rfl _ _ rfl rfl _ _ hr ?_; have H12 := Lib.hid (And.intro (show Own8 _ (catF n f g) (n + m) v' w' by unfold Own8; rw [← p8_catF]; exact ho) (H11.out.2.grown hg2 H11.out.2.size (fun j hj => (H11.out.1.lt j hj).1))); clear hr ho hs hg2 H11) | (go_at_call 6; refine (of_any (n := n + m) (f := catF n f g) (by omega) (fun j => by unfold catF; split <;> first | exact HF.out _ | exact HG.out _) (own_arg H12.out.1)).mono ?_; rintro e w6 ⟨v12, rfl, ho, -, hb⟩; have hb' := H12.out.2.trans (hb.mono H12.out.2.size); have H13 := Lib.hid (own_arg ho); have HW := Lib.hid (H10.out.2.trans (hb'.mono H10.out.2.size)); replace H10 := Lib.hid (H10.out.1.below hb'); replace H8 := Lib.hid (H8.out.below hb'); replace H6 := Lib.hid (H6.out.below hb'); replace H5 := Lib.hid (H5.out.below hb'); clear ho hb hb' H12))
  obtain ⟨s1, hs1⟩ : ∃ s, strB (2 * n) (hv f) = s := ⟨_, rfl⟩
  obtain ⟨s2, hs2⟩ : ∃ s, strB n f = s := ⟨_, rfl⟩
  obtain ⟨s4, hs4⟩ : ∃ s, strB (bN m g) (jn g) = s := ⟨_, rfl⟩
  obtain ⟨s6, hs6⟩ : ∃ s, strB (2 * (n + m)) (hv (catF n f g)) = s := ⟨_, rfl⟩
  obtain ⟨s7, hs7⟩ : ∃ s, strB (2 * m) (hv g) = s := ⟨_, rfl⟩
  obtain ⟨z, hz⟩ : ∃ z, bE m g = z := ⟨_, rfl⟩
  have hz0 : bE (2 * n) (hv f) = 0 := by unfold bE; rw [if_pos (ok_hv HF.out)]
  have HS1 := Lib.hid (show ∀ wx, Below w6.heap.size w6 wx → (convert 22 9 v5).run Try.prog wx = .ok (.string s1) wx from fun wx hb => by rw [← hs1]; exact str_run (H5.out.below hb))
  have HS2 := Lib.hid (show ∀ wx, Below w6.heap.size w6 wx → (convert 22 9 v6).run Try.prog wx = .ok (.string s2) wx from fun wx hb => by
    have e := str_run (H6.out.below hb)
    rw [show bN (2 * n) (hv f) = n by unfold bN; rw [if_pos (ok_hv HF.out)]; omega, strB_congr (fun j _ => jn_hv f j), hs2] at e
    exact e)
  have HS3 := Lib.hid (show ∀ wx, Below w6.heap.size w6 wx → (convert 22 9 (.slice a n cap)).run Try.prog wx = .ok (.string s2) wx from fun wx hb => by rw [← hs2]; exact str_run (HU.out.below (HW.out.trans (hb.mono HW.out.size))))
  have HS4 := Lib.hid (show ∀ wx, Below w6.heap.size w6 wx → (convert 22 9 v8).run Try.prog wx = .ok (.string s4) wx from fun wx hb => by rw [← hs4]; exact str_run (H8.out.below hb))
  have HS5 := Lib.hid (show ∀ wx, Below w6.heap.size w6 wx → (convert 22 9 v10).run Try.prog wx = .ok (.string s4) wx from fun wx hb => by rw [← hs4]; exact str_run (H10.out.below hb))
  have HS6 := Lib.hid (show ∀ wx, Below w6.heap.size w6 wx → (convert 22 9 v12).run Try.prog wx = .ok (.string s6) wx from fun wx hb => by rw [← hs6]; exact str_run (H13.out.below hb))
  have HT1 := Lib.hid (show ∀ wx u, ArgB wx u (2 * n) (hv f) → (convert 22 9 u).run Try.prog wx = .ok (.string s1) wx from fun wx u h => by rw [← hs1]; exact str_run h)
  have HT2 := Lib.hid (show ∀ wx u, ArgB wx u (2 * m) (hv g) → (convert 22 9 u).run Try.prog wx = .ok (.string s7) wx from fun wx u h => by rw [← hs7]; exact str_run h)
  have HADD := Lib.hid (show ∀ wx, (binOp BinOp.add 9 (.string s1) (.string s7)).run Try.prog wx = .ok (.string s6) wx from fun wx => by
    have e := str_add s1 s7 wx (by rw [← hs1, ← hs7, strB_size, strB_size]; omega)
    rw [← hs1, ← hs7, strB_add] at e
    rw [← hs1, ← hs7, ← hs6, e, show 2 * n + 2 * m = 2 * (n + m) by omega, strB_congr (fun j _ => (hv_cat n f g j).symm)])
  rw [hz] at *
  rw [hz0] at *
  clear hs1 hs2 hs4 hs6 hs7 hz hz0 H5 H6 H8 H10 H13
  refine region_many [.val 40 (v5), .val 41 (.string s1), .val 42 (.slice a n cap), .own 43 ((fun u wx => ArgB wx u (2 * n) (hv f))), .val 44 (.string s1), .val 45 (.bool true), .val 46 (.bool true), .val 47 (v6), .val 48 (.string s2), .val 49 (.slice a n cap), .val 50 (.string s2), .val 51 (.bool true), .val 52 (.bool true), .val 53 (.bool true), .val 54 (.int .i64 0), .val 55 (.bool true), .val 56 (.bool true), .val 57 (.bool true), .val 58 (v8), .val 59 (.string s4), .val 60 (v10), .val 61 (.string s4), .val 62 (.bool true), .val 63 (.bool true), .val 64 (.bool true), .val 65 (.int .i64 z), .val 66 (.int .i64 z), .val 67 (.bool true), .val 68 (.bool true), .val 69 (.bool true), .val 70 (v12), .val 71 (.string s6), .val 72 (.slice a n cap), .own 73 ((fun u wx => ArgB wx u (2 * n) (hv f))), .val 74 (.string s1), .val 75 (.slice b m cap2), .own 76 ((fun u wx => ArgB wx u (2 * m) (hv g))), .val 77 (.string s7), .val 78 (.string s6), .val 79 (.bool true), .val 80 (.bool true), .val 81 (.bool true), .val 82 (.bool true), .val 83 (.bool true), .val 4 (.bool true)] [] (fun p => #[]) (fun i => i) (by kernel_rfl) (by kernel_rfl) (by exact ⟨trivial, trivial, trivial, ⟨rfl, fun _ _ _ hb h => ArgB.below h hb⟩, trivial, trivial, trivial, trivial, trivial, trivial, trivial, trivial, trivial, trivial, trivial, trivial, trivial, trivial, trivial, trivial, trivial, trivial, trivial, trivial, trivial, trivial, trivial, trivial, trivial, trivial, trivial, trivial, trivial, ⟨rfl, fun _ _ _ hb h => ArgB.below h hb⟩, trivial, trivial, ⟨rfl, fun _ _ _ hb h => ArgB.below h hb⟩, trivial, trivial, trivial, trivial, trivial, trivial, trivial, trivial, trivial⟩) (fun p hp => by cases hp) ?_ ?_
  · refine ⟨?_, ?_, ?_, ?_, ?_, ?_, ?_, ?_, ?_, ?_, ?_, ?_, ?_, ?_, ?_, ?_, ?_, ?_, ?_, ?_, ?_, ?_, ?_, ?_, ?_, ?_, ?_, ?_, ?_, ?_, ?_, ?_, ?_, ?_, ?_, ?_, ?_, ?_, ?_, ?_, ?_, ?_, ?_, ?_, ?_, trivial⟩
    · intro ac wx hC hsz hK
      have h0 : ac.tmps.getD 5 undef = v5 := hK.1 5 (by kernel_rfl)
      exact mm_val (v5) rfl (by kernel_rfl) (by rw [← h0]; kernel_rfl) hC (by kernel_rfl) (by rw [hsz]; exact of_decide_eq_true (by kernel_rfl)) rfl
    · intro ac wx hC hsz hK
      have h0 : ac.tmps.getD 40 undef = v5 := hK.2 ⟨0, .data⟩ (by simp) rfl _ rfl
      refine mm_sem (convert 22 9 (ac.tmps.getD 40 undef)) (.string s1) rfl (by kernel_rfl) (by kernel_rfl) ?_ hC (by kernel_rfl) (by rw [hsz]; exact of_decide_eq_true (by kernel_rfl)) rfl
      rw [h0]
      exact HS1.out wx hC.1
    · intro ac wx hC hsz hK
      have h0 : ac.tmps.getD 0 undef = .slice a n cap := hK.1 0 (by kernel_rfl)
      exact mm_val (.slice a n cap) rfl (by kernel_rfl) (by rw [← h0]; kernel_rfl) hC (by kernel_rfl) (by rw [hsz]; exact of_decide_eq_true (by kernel_rfl)) rfl
    · intro ac wx hC hsz hK
      have h0 : ac.tmps.getD 42 undef = .slice a n cap := hK.2 ⟨2, .data⟩ (by simp) rfl _ rfl
      refine mm_callx 9 #[ac.tmps.getD 42 undef] ((fun u wx => ArgB wx u (2 * n) (hv f))) rfl (by kernel_rfl) (by kernel_rfl) ?_ hC (by kernel_rfl) (by rw [hsz]; exact of_decide_eq_true (by kernel_rfl)) rfl
      rw [h0]
      exact rof_is hn HF.out (HU.out.below (HW.out.trans (hC.1.mono HW.out.size)))
    · intro ac wx hC hsz hK
      have hG := hK.2 ⟨3, .data⟩ (by simp) rfl _ rfl
      exact mm_val (.string s1) rfl (by kernel_rfl) (run_sem (convert 22 9 (ac.tmps.getD 43 undef)) _ (by kernel_rfl) (HT1.out wx _ hG)) hC (by kernel_rfl) (by rw [hsz]; exact of_decide_eq_true (by kernel_rfl)) rfl
    · intro ac wx hC hsz hK
      have h0 : ac.tmps.getD 41 undef = .string s1 := hK.2 ⟨1, .data⟩ (by simp) rfl _ rfl
      have h1 : ac.tmps.getD 44 undef = .string s1 := hK.2 ⟨4, .data⟩ (by simp) rfl _ rfl
      exact mm_bin .eql 9 (.tmp 41) (.tmp 44) 9 (.string s1) (.string s1) (.bool true) rfl rfl (by kernel_rfl) h0 h1 (by kernel_rfl) (str_eq s1 _) hC (by kernel_rfl) (by rw [hsz]; exact of_decide_eq_true (by kernel_rfl)) rfl
    · intro ac wx hC hsz hK
      have h0 : ac.tmps.getD 45 undef = .bool true := hK.2 ⟨5, .data⟩ (by simp) rfl _ rfl
      exact mm_val (.bool true) rfl (by kernel_rfl) (by rw [← h0]; kernel_rfl) hC (by kernel_rfl) (by rw [hsz]; exact of_decide_eq_true (by kernel_rfl)) rfl
    · intro ac wx hC hsz hK
      have hg : ac.tmps.getD 46 undef = .bool true := hK.2 ⟨6, .guard⟩ (by simp) rfl _ rfl
      have h0 : ac.tmps.getD 6 undef = v6 := hK.1 6 (by kernel_rfl)
      exact mm_val (v6) rfl (wanted_of (d := 46) rfl (by kernel_rfl) hg) (by rw [← h0]; kernel_rfl) hC (by kernel_rfl) (by rw [hsz]; exact of_decide_eq_true (by kernel_rfl)) rfl
    · intro ac wx hC hsz hK
      have hg : ac.tmps.getD 46 undef = .bool true := hK.2 ⟨6, .guard⟩ (by simp) rfl _ rfl
      have h0 : ac.tmps.getD 47 undef = v6 := hK.2 ⟨7, .data⟩ (by simp) rfl _ rfl
      refine mm_sem (convert 22 9 (ac.tmps.getD 47 undef)) (.string s2) rfl (wanted_of (d := 46) rfl (by kernel_rfl) hg) (by kernel_rfl) ?_ hC (by kernel_rfl) (by rw [hsz]; exact of_decide_eq_true (by kernel_rfl)) rfl
      rw [h0]
      exact HS2.out wx hC.1
    · intro ac wx hC hsz hK
      have hg : ac.tmps.getD 46 undef = .bool true := hK.2 ⟨6, .guard⟩ (by simp) rfl _ rfl
      have h0 : ac.tmps.getD 0 undef = .slice a n cap := hK.1 0 (by kernel_rfl)
      exact mm_val (.slice a n cap) rfl (wanted_of (d := 46) rfl (by kernel_rfl) hg) (by rw [← h0]; kernel_rfl) hC (by kernel_rfl) (by rw [hsz]; exact of_decide_eq_true (by kernel_rfl)) rfl
    · intro ac wx hC hsz hK
      have hg : ac.tmps.getD 46 undef = .bool true := hK.2 ⟨6, .guard⟩ (by simp) rfl _ rfl
      have h0 : ac.tmps.getD 49 undef = .slice a n cap := hK.2 ⟨9, .data⟩ (by simp) rfl _ rfl
      refine mm_sem (convert 22 9 (ac.tmps.getD 49 undef)) (.string s2) rfl (wanted_of (d := 46) rfl (by kernel_rfl) hg) (by kernel_rfl) ?_ hC (by kernel_rfl) (by rw [hsz]; exact of_decide_eq_true (by kernel_rfl)) rfl
      rw [h0]
      exact HS3.out wx hC.1
    · intro ac wx hC hsz hK
      have hg : ac.tmps.getD 46 undef = .bool true := hK.2 ⟨6, .guard⟩ (by simp) rfl _ rfl
      have h0 : ac.tmps.getD 48 undef = .string s2 := hK.2 ⟨8, .data⟩ (by simp) rfl _ rfl
      have h1 : ac.tmps.getD 50 undef = .string s2 := hK.2 ⟨10, .data⟩ (by simp) rfl _ rfl
      exact mm_bin .eql 9 (.tmp 48) (.tmp 50) 9 (.string s2) (.string s2) (.bool true) rfl rfl (wanted_of (d := 46) rfl (by kernel_rfl) hg) h0 h1 (by kernel_rfl) (str_eq s2 _) hC (by kernel_rfl) (by rw [hsz]; exact of_decide_eq_true (by kernel_rfl)) rfl
    · intro ac wx hC hsz hK
      have h0 : ac.tmps.getD 46 undef = .bool true := hK.2 ⟨6, .data⟩ (by simp) rfl _ rfl
      have h1 : ac.tmps.getD 51 undef = .bool true := hK.2 ⟨11, .data⟩ (by simp) rfl _ rfl
      exact mm_val (.bool true) rfl (by kernel_rfl) (run_pick (.tmp 46) (.tmp 51) (.const (.bool false)) true (.bool true) rfl h0 (h1)) hC (by kernel_rfl) (by rw [hsz]; exact of_decide_eq_true (by kernel_rfl)) rfl
    · intro ac wx hC hsz hK
      have h0 : ac.tmps.getD 52 undef = .bool true := hK.2 ⟨12, .data⟩ (by simp) rfl _ rfl
      exact mm_val (.bool true) rfl (by kernel_rfl) (by rw [← h0]; kernel_rfl) hC (by kernel_rfl) (by rw [hsz]; exact of_decide_eq_true (by kernel_rfl)) rfl
    · intro ac wx hC hsz hK
      have hg : ac.tmps.getD 53 undef = .bool true := hK.2 ⟨13, .guard⟩ (by simp) rfl _ rfl
      have h0 : ac.tmps.getD 7 undef = .int .i64 0 := hK.1 7 (by kernel_rfl)
      exact mm_val (.int .i64 0) rfl (wanted_of (d := 53) rfl (by kernel_rfl) hg) (by rw [← h0]; kernel_rfl) hC (by kernel_rfl) (by rw [hsz]; exact of_decide_eq_true (by kernel_rfl)) rfl
    · intro ac wx hC hsz hK
      have hg : ac.tmps.getD 53 undef = .bool true := hK.2 ⟨13, .guard⟩ (by simp) rfl _ rfl
      have h0 : ac.tmps.getD 54 undef = .int .i64 0 := hK.2 ⟨14, .data⟩ (by simp) rfl _ rfl
      exact mm_bin .eql 24 (.tmp 54) (.const (.int .i64 0)) 24 (.int .i64 0) (.int .i64 0) (.bool true) rfl rfl (wanted_of (d := 53) rfl (by kernel_rfl) hg) h0 rfl (by kernel_rfl) (by kernel_rfl) hC (by kernel_rfl) (by rw [hsz]; exact of_decide_eq_true (by kernel_rfl)) rfl
    · intro ac wx hC hsz hK
      have h0 : ac.tmps.getD 53 undef = .bool true := hK.2 ⟨13, .data⟩ (by simp) rfl _ rfl
      have h1 : ac.tmps.getD 55 undef = .bool true := hK.2 ⟨15, .data⟩ (by simp) rfl _ rfl
      exact mm_val (.bool true) rfl (by kernel_rfl) (run_pick (.tmp 53) (.tmp 55) (.const (.bool false)) true (.bool true) rfl h0 (h1)) hC (by kernel_rfl) (by rw [hsz]; exact of_decide_eq_true (by kernel_rfl)) rfl
    · intro ac wx hC hsz hK
      have h0 : ac.tmps.getD 56 undef = .bool true := hK.2 ⟨16, .data⟩ (by simp) rfl _ rfl
      exact mm_val (.bool true) rfl (by kernel_rfl) (by rw [← h0]; kernel_rfl) hC (by kernel_rfl) (by rw [hsz]; exact of_decide_eq_true (by kernel_rfl)) rfl
    · intro ac wx hC hsz hK
      have hg : ac.tmps.getD 57 undef = .bool true := hK.2 ⟨17, .guard⟩ (by simp) rfl _ rfl
      have h0 : ac.tmps.getD 8 undef = v8 := hK.1 8 (by kernel_rfl)
      exact mm_val (v8) rfl (wanted_of (d := 57) rfl (by kernel_rfl) hg) (by rw [← h0]; kernel_rfl) hC (by kernel_rfl) (by rw [hsz]; exact of_decide_eq_true (by kernel_rfl)) rfl
    · intro ac wx hC hsz hK
      have hg : ac.tmps.getD 57 undef = .bool true := hK.2 ⟨17, .guard⟩ (by simp) rfl _ rfl
      have h0 : ac.tmps.getD 58 undef = v8 := hK.2 ⟨18, .data⟩ (by simp) rfl _ rfl
      refine mm_sem (convert 22 9 (ac.tmps.getD 58 undef)) (.string s4) rfl (wanted_of (d := 57) rfl (by kernel_rfl) hg) (by kernel_rfl) ?_ hC (by kernel_rfl) (by rw [hsz]; exact of_decide_eq_true (by kernel_rfl)) rfl
      rw [h0]
      exact HS4.out wx hC.1
    · intro ac wx hC hsz hK
      have hg : ac.tmps.getD 57 undef = .bool true := hK.2 ⟨17, .guard⟩ (by simp) rfl _ rfl
      have h0 : ac.tmps.getD 10 undef = v10 := hK.1 10 (by kernel_rfl)
      exact mm_val (v10) rfl (wanted_of (d := 57) rfl (by kernel_rfl) hg) (by rw [← h0]; kernel_rfl) hC (by kernel_rfl) (by rw [hsz]; exact of_decide_eq_true (by kernel_rfl)) rfl
    · intro ac wx hC hsz hK
      have hg : ac.tmps.getD 57 undef = .bool true := hK.2 ⟨17, .guard⟩ (by simp) rfl _ rfl
      have h0 : ac.tmps.getD 60 undef = v10 := hK.2 ⟨20, .data⟩ (by simp) rfl _ rfl
      refine mm_sem (convert 22 9 (ac.tmps.getD 60 undef)) (.string s4) rfl (wanted_of (d := 57) rfl (by kernel_rfl) hg) (by kernel_rfl) ?_ hC (by kernel_rfl) (by rw [hsz]; exact of_decide_eq_true (by kernel_rfl)) rfl
      rw [h0]
      exact HS5.out wx hC.1
    · intro ac wx hC hsz hK
      have hg : ac.tmps.getD 57 undef = .bool true := hK.2 ⟨17, .guard⟩ (by simp) rfl _ rfl
      have h0 : ac.tmps.getD 59 undef = .string s4 := hK.2 ⟨19, .data⟩ (by simp) rfl _ rfl
      have h1 : ac.tmps.getD 61 undef = .string s4 := hK.2 ⟨21, .data⟩ (by simp) rfl _ rfl
      exact mm_bin .eql 9 (.tmp 59) (.tmp 61) 9 (.string s4) (.string s4) (.bool true) rfl rfl (wanted_of (d := 57) rfl (by kernel_rfl) hg) h0 h1 (by kernel_rfl) (str_eq s4 _) hC (by kernel_rfl) (by rw [hsz]; exact of_decide_eq_true (by kernel_rfl)) rfl
    · intro ac wx hC hsz hK
      have h0 : ac.tmps.getD 57 undef = .bool true := hK.2 ⟨17, .data⟩ (by simp) rfl _ rfl
      have h1 : ac.tmps.getD 62 undef = .bool true := hK.2 ⟨22, .data⟩ (by simp) rfl _ rfl
      exact mm_val (.bool true) rfl (by kernel_rfl) (run_pick (.tmp 57) (.tmp 62) (.const (.bool false)) true (.bool true) rfl h0 (h1)) hC (by kernel_rfl) (by rw [hsz]; exact of_decide_eq_true (by kernel_rfl)) rfl
    · intro ac wx hC hsz hK
      have h0 : ac.tmps.getD 63 undef = .bool true := hK.2 ⟨23, .data⟩ (by simp) rfl _ rfl
      exact mm_val (.bool true) rfl (by kernel_rfl) (by rw [← h0]; kernel_rfl) hC (by kernel_rfl) (by rw [hsz]; exact of_decide_eq_true (by kernel_rfl)) rfl
    · intro ac wx hC hsz hK
      have hg : ac.tmps.getD 64 undef = .bool true := hK.2 ⟨24, .guard⟩ (by simp) rfl _ rfl
      have h0 : ac.tmps.getD 9 undef = .int .i64 z := hK.1 9 (by kernel_rfl)
      exact mm_val (.int .i64 z) rfl (wanted_of (d := 64) rfl (by kernel_rfl) hg) (by rw [← h0]; kernel_rfl) hC (by kernel_rfl) (by rw [hsz]; exact of_decide_eq_true (by kernel_rfl)) rfl
    · intro ac wx hC hsz hK
      have hg : ac.tmps.getD 64 undef = .bool true := hK.2 ⟨24, .guard⟩ (by simp) rfl _ rfl
      have h0 : ac.tmps.getD 11 undef = .int .i64 z := hK.1 11 (by kernel_rfl)
      exact mm_val (.int .i64 z) rfl (wanted_of (d := 64) rfl (by kernel_rfl) hg) (by rw [← h0]; kernel_rfl) hC (by kernel_rfl) (by rw [hsz]; exact of_decide_eq_true (by kernel_rfl)) rfl
    · intro ac wx hC hsz hK
      have hg : ac.tmps.getD 64 undef = .bool true := hK.2 ⟨24, .guard⟩ (by simp) rfl _ rfl
      have h0 : ac.tmps.getD 65 undef = .int .i64 z := hK.2 ⟨25, .data⟩ (by simp) rfl _ rfl
      have h1 : ac.tmps.getD 66 undef = .int .i64 z := hK.2 ⟨26, .data⟩ (by simp) rfl _ rfl
      exact mm_bin .eql 24 (.tmp 65) (.tmp 66) 24 (.int .i64 z) (.int .i64 z) (.bool true) rfl rfl (wanted_of (d := 64) rfl (by kernel_rfl) hg) h0 h1 (by kernel_rfl) (eq_z z _) hC (by kernel_rfl) (by rw [hsz]; exact of_decide_eq_true (by kernel_rfl)) rfl
    · intro ac wx hC hsz hK
      have h0 : ac.tmps.getD 64 undef = .bool true := hK.2 ⟨24, .data⟩ (by simp) rfl _ rfl
      have h1 : ac.tmps.getD 67 undef = .bool true := hK.2 ⟨27, .data⟩ (by simp) rfl _ rfl
      exact mm_val (.bool true) rfl (by kernel_rfl) (run_pick (.tmp 64) (.tmp 67) (.const (.bool false)) true (.bool true) rfl h0 (h1)) hC (by kernel_rfl) (by rw [hsz]; exact of_decide_eq_true (by kernel_rfl)) rfl
    · intro ac wx hC hsz hK
      have h0 : ac.tmps.getD 68 undef = .bool true := hK.2 ⟨28, .data⟩ (by simp) rfl _ rfl
      exact mm_val (.bool true) rfl (by kernel_rfl) (by rw [← h0]; kernel_rfl) hC (by kernel_rfl) (by rw [hsz]; exact of_decide_eq_true (by kernel_rfl)) rfl
    · intro ac wx hC hsz hK
      have hg : ac.tmps.getD 69 undef = .bool true := hK.2 ⟨29, .guard⟩ (by simp) rfl _ rfl
      have h0 : ac.tmps.getD 12 undef = v12 := hK.1 12 (by kernel_rfl)
      exact mm_val (v12) rfl (wanted_of (d := 69) rfl (by kernel_rfl) hg) (by rw [← h0]; kernel_rfl) hC (by kernel_rfl) (by rw [hsz]; exact of_decide_eq_true (by kernel_rfl)) rfl
    · intro ac wx hC hsz hK
      have hg : ac.tmps.getD 69 undef = .bool true := hK.2 ⟨29, .guard⟩ (by simp) rfl _ rfl
      have h0 : ac.tmps.getD 70 undef = v12 := hK.2 ⟨30, .data⟩ (by simp) rfl _ rfl
      refine mm_sem (convert 22 9 (ac.tmps.getD 70 undef)) (.string s6) rfl (wanted_of (d := 69) rfl (by kernel_rfl) hg) (by kernel_rfl) ?_ hC (by kernel_rfl) (by rw [hsz]; exact of_decide_eq_true (by kernel_rfl)) rfl
      rw [h0]
      exact HS6.out wx hC.1
    · intro ac wx hC hsz hK
      have hg : ac.tmps.getD 69 undef = .bool true := hK.2 ⟨29, .guard⟩ (by simp) rfl _ rfl
      have h0 : ac.tmps.getD 0 undef = .slice a n cap := hK.1 0 (by kernel_rfl)
      exact mm_val (.slice a n cap) rfl (wanted_of (d := 69) rfl (by kernel_rfl) hg) (by rw [← h0]; kernel_rfl) hC (by kernel_rfl) (by rw [hsz]; exact of_decide_eq_true (by kernel_rfl)) rfl
    · intro ac wx hC hsz hK
      have hg : ac.tmps.getD 69 undef = .bool true := hK.2 ⟨29, .guard⟩ (by simp) rfl _ rfl
      have h0 : ac.tmps.getD 72 undef = .slice a n cap := hK.2 ⟨32, .data⟩ (by simp) rfl _ rfl
      refine mm_callx 9 #[ac.tmps.getD 72 undef] ((fun u wx => ArgB wx u (2 * n) (hv f))) rfl (wanted_of (d := 69) rfl (by kernel_rfl) hg) (by kernel_rfl) ?_ hC (by kernel_rfl) (by rw [hsz]; exact of_decide_eq_true (by kernel_rfl)) rfl
      rw [h0]
      exact rof_is hn HF.out (HU.out.below (HW.out.trans (hC.1.mono HW.out.size)))
    · intro ac wx hC hsz hK
      have hg : ac.tmps.getD 69 undef = .bool true := hK.2 ⟨29, .guard⟩ (by simp) rfl _ rfl
      have hG := hK.2 ⟨33, .data⟩ (by simp) rfl _ rfl
      exact mm_val (.string s1) rfl (wanted_of (d := 69) rfl (by kernel_rfl) hg) (run_sem (convert 22 9 (ac.tmps.getD 73 undef)) _ (by kernel_rfl) (HT1.out wx _ hG)) hC (by kernel_rfl) (by rw [hsz]; exact of_decide_eq_true (by kernel_rfl)) rfl
    · intro ac wx hC hsz hK
      have hg : ac.tmps.getD 69 undef = .bool true := hK.2 ⟨29, .guard⟩ (by simp) rfl _ rfl
      have h0 : ac.tmps.getD 1 undef = .slice b m cap2 := hK.1 1 (by kernel_rfl)
      exact mm_val (.slice b m cap2) rfl (wanted_of (d := 69) rfl (by kernel_rfl) hg) (by rw [← h0]; kernel_rfl) hC (by kernel_rfl) (by rw [hsz]; exact of_decide_eq_true (by kernel_rfl)) rfl
    · intro ac wx hC hsz hK
      have hg : ac.tmps.getD 69 undef = .bool true := hK.2 ⟨29, .guard⟩ (by simp) rfl _ rfl
      have h0 : ac.tmps.getD 75 undef = .slice b m cap2 := hK.2 ⟨35, .data⟩ (by simp) rfl _ rfl
      refine mm_callx 9 #[ac.tmps.getD 75 undef] ((fun u wx => ArgB wx u (2 * m) (hv g))) rfl (wanted_of (d := 69) rfl (by kernel_rfl) hg) (by kernel_rfl) ?_ hC (by kernel_rfl) (by rw [hsz]; exact of_decide_eq_true (by kernel_rfl)) rfl
      rw [h0]
      exact rof_is hm HG.out (HV.out.below (HW.out.trans (hC.1.mono HW.out.size)))
    · intro ac wx hC hsz hK
      have hg : ac.tmps.getD 69 undef = .bool true := hK.2 ⟨29, .guard⟩ (by simp) rfl _ rfl
      have hG := hK.2 ⟨36, .data⟩ (by simp) rfl _ rfl
      exact mm_val (.string s7) rfl (wanted_of (d := 69) rfl (by kernel_rfl) hg) (run_sem (convert 22 9 (ac.tmps.getD 76 undef)) _ (by kernel_rfl) (HT2.out wx _ hG)) hC (by kernel_rfl) (by rw [hsz]; exact of_decide_eq_true (by kernel_rfl)) rfl
    · intro ac wx hC hsz hK
      have hg : ac.tmps.getD 69 undef = .bool true := hK.2 ⟨29, .guard⟩ (by simp) rfl _ rfl
      have h0 : ac.tmps.getD 74 undef = .string s1 := hK.2 ⟨34, .data⟩ (by simp) rfl _ rfl
      have h1 : ac.tmps.getD 77 undef = .string s7 := hK.2 ⟨37, .data⟩ (by simp) rfl _ rfl
      exact mm_bin .add 9 (.tmp 74) (.tmp 77) 9 (.string s1) (.string s7) (.string s6) rfl rfl (wanted_of (d := 69) rfl (by kernel_rfl) hg) h0 h1 (by kernel_rfl) (HADD.out _) hC (by kernel_rfl) (by rw [hsz]; exact of_decide_eq_true (by kernel_rfl)) rfl
    · intro ac wx hC hsz hK
      have hg : ac.tmps.getD 69 undef = .bool true := hK.2 ⟨29, .guard⟩ (by simp) rfl _ rfl
      have h0 : ac.tmps.getD 71 undef = .string s6 := hK.2 ⟨31, .data⟩ (by simp) rfl _ rfl
      have h1 : ac.tmps.getD 78 undef = .string s6 := hK.2 ⟨38, .data⟩ (by simp) rfl _ rfl
      exact mm_bin .eql 9 (.tmp 71) (.tmp 78) 9 (.string s6) (.string s6) (.bool true) rfl rfl (wanted_of (d := 69) rfl (by kernel_rfl) hg) h0 h1 (by kernel_rfl) (str_eq s6 _) hC (by kernel_rfl) (by rw [hsz]; exact of_decide_eq_true (by kernel_rfl)) rfl
    · intro ac wx hC hsz hK
      have h0 : ac.tmps.getD 69 undef = .bool true := hK.2 ⟨29, .data⟩ (by simp) rfl _ rfl
      have h1 : ac.tmps.getD 79 undef = .bool true := hK.2 ⟨39, .data⟩ (by simp) rfl _ rfl
      exact mm_val (.bool true) rfl (by kernel_rfl) (run_pick (.tmp 69) (.tmp 79) (.const (.bool false)) true (.bool true) rfl h0 (h1)) hC (by kernel_rfl) (by rw [hsz]; exact of_decide_eq_true (by kernel_rfl)) rfl
    · intro ac wx hC hsz hK
      have h0 : ac.tmps.getD 80 undef = .bool true := hK.2 ⟨40, .data⟩ (by simp) rfl _ rfl
      exact mm_val (.bool true) rfl (by kernel_rfl) (by rw [← h0]; kernel_rfl) hC (by kernel_rfl) (by rw [hsz]; exact of_decide_eq_true (by kernel_rfl)) rfl
    · intro ac wx hC hsz hK
      have hg : ac.tmps.getD 81 undef = .bool true := hK.2 ⟨41, .guard⟩ (by simp) rfl _ rfl
      refine mm_call 10 #[] (.bool true) rfl (wanted_of (d := 81) rfl (by kernel_rfl) hg) (by kernel_rfl) ?_ hC (by kernel_rfl) (by rw [hsz]; exact of_decide_eq_true (by kernel_rfl)) rfl
      exact lives_any wx
    · intro ac wx hC hsz hK
      have h0 : ac.tmps.getD 81 undef = .bool true := hK.2 ⟨41, .data⟩ (by simp) rfl _ rfl
      have h1 : ac.tmps.getD 82 undef = .bool true := hK.2 ⟨42, .data⟩ (by simp) rfl _ rfl
      exact mm_val (.bool true) rfl (by kernel_rfl) (run_pick (.tmp 81) (.tmp 82) (.const (.bool false)) true (.bool true) rfl h0 (h1)) hC (by kernel_rfl) (by rw [hsz]; exact of_decide_eq_true (by kernel_rfl)) rfl
    · intro ac wx hC hsz hK
      have h0 : ac.tmps.getD 83 undef = .bool true := hK.2 ⟨43, .data⟩ (by simp) rfl _ rfl
      exact mm_val (.bool true) rfl (by kernel_rfl) (by rw [← h0]; kernel_rfl) hC (by kernel_rfl) (by rw [hsz]; exact of_decide_eq_true (by kernel_rfl)) rfl
  intro FV wx hb _ hK
  have r4 := hK 44 _ rfl
  have HB := Lib.hid (HW.out.trans (hb.mono HW.out.size))
  clear hb hK
  generalize hAct : putAll _ _ _ = A1 at *
  have hsz : A1.tmps.size = 84 := by rw [← hAct, putAll_size]; rfl
  have hdf : A1.defers = [] := by subst hAct; kernel_rfl
  have r4 : A1.tmps.getD 4 undef = .bool true := r4
  clear hAct
  obtain ⟨u0, t0⟩ : ∃ u, A1.tmps.getD 0 undef = u := ⟨_, rfl⟩
  obtain ⟨u1, t1⟩ : ∃ u, A1.tmps.getD 1 undef = u := ⟨_, rfl⟩
  obtain ⟨u2, t2⟩ : ∃ u, A1.tmps.getD 2 undef = u := ⟨_, rfl⟩
  obtain ⟨u3, t3⟩ : ∃ u, A1.tmps.getD 3 undef = u := ⟨_, rfl⟩
  obtain ⟨u5, t5⟩ : ∃ u, A1.tmps.getD 5 undef = u := ⟨_, rfl⟩
  obtain ⟨u6, t6⟩ : ∃ u, A1.tmps.getD 6 undef = u := ⟨_, rfl⟩
  obtain ⟨u7, t7⟩ : ∃ u, A1.tmps.getD 7 undef = u := ⟨_, rfl⟩
  obtain ⟨u8, t8⟩ : ∃ u, A1.tmps.getD 8 undef = u := ⟨_, rfl⟩
  obtain ⟨u9, t9⟩ : ∃ u, A1.tmps.getD 9 undef = u := ⟨_, rfl⟩
  obtain ⟨u10, t10⟩ : ∃ u, A1.tmps.getD 10 undef = u := ⟨_, rfl⟩
  obtain ⟨u11, t11⟩ : ∃ u, A1.tmps.getD 11 undef = u := ⟨_, rfl⟩
  obtain ⟨u12, t12⟩ : ∃ u, A1.tmps.getD 12 undef = u := ⟨_, rfl⟩
  obtain ⟨u13, t13⟩ : ∃ u, A1.tmps.getD 13 undef = u := ⟨_, rfl⟩
  obtain ⟨u14, t14⟩ : ∃ u, A1.tmps.getD 14 undef = u := ⟨_, rfl⟩
  obtain ⟨u15, t15⟩ : ∃ u, A1.tmps.getD 15 undef = u := ⟨_, rfl⟩
  obtain ⟨u16, t16⟩ : ∃ u, A1.tmps.getD 16 undef = u := ⟨_, rfl⟩
  obtain ⟨u17, t17⟩ : ∃ u, A1.tmps.getD 17 undef = u := ⟨_, rfl⟩
  obtain ⟨u18, t18⟩ : ∃ u, A1.tmps.getD 18 undef = u := ⟨_, rfl⟩
  obtain ⟨u19, t19⟩ : ∃ u, A1.tmps.getD 19 undef = u := ⟨_, rfl⟩
  obtain ⟨u20, t20⟩ : ∃ u, A1.tmps.getD 20 undef = u := ⟨_, rfl⟩
  obtain ⟨u21, t21⟩ : ∃ u, A1.tmps.getD 21 undef = u := ⟨_, rfl⟩
  obtain ⟨u22, t22⟩ : ∃ u, A1.tmps.getD 22 undef = u := ⟨_, rfl⟩
  obtain ⟨u23, t23⟩ : ∃ u, A1.tmps.getD 23 undef = u := ⟨_, rfl⟩
  obtain ⟨u24, t24⟩ : ∃ u, A1.tmps.getD 24 undef = u := ⟨_, rfl⟩
  obtain ⟨u25, t25⟩ : ∃ u, A1.tmps.getD 25 undef = u := ⟨_, rfl⟩
  obtain ⟨u26, t26⟩ : ∃ u, A1.tmps.getD 26 undef = u := ⟨_, rfl⟩
  obtain ⟨u27, t27⟩ : ∃ u, A1.tmps.getD 27 undef = u := ⟨_, rfl⟩
  obtain ⟨u28, t28⟩ : ∃ u, A1.tmps.getD 28 undef = u := ⟨_, rfl⟩
  obtain ⟨u29, t29⟩ : ∃ u, A1.tmps.getD 29 undef = u := ⟨_, rfl⟩
  obtain ⟨u30, t30⟩ : ∃ u, A1.tmps.getD 30 undef = u := ⟨_, rfl⟩
  obtain ⟨u31, t31⟩ : ∃ u, A1.tmps.getD 31 undef = u := ⟨_, rfl⟩
  obtain ⟨u32, t32⟩ : ∃ u, A1.tmps.getD 32 undef = u := ⟨_, rfl⟩
  obtain ⟨u33, t33⟩ : ∃ u, A1.tmps.getD 33 undef = u := ⟨_, rfl⟩
  obtain ⟨u34, t34⟩ : ∃ u, A1.tmps.getD 34 undef = u := ⟨_, rfl⟩
  obtain ⟨u35, t35⟩ : ∃ u, A1.tmps.getD 35 undef = u := ⟨_, rfl⟩
  obtain ⟨u36, t36⟩ : ∃ u, A1.tmps.getD 36 undef = u := ⟨_, rfl⟩
  obtain ⟨u37, t37⟩ : ∃ u, A1.tmps.getD 37 undef = u := ⟨_, rfl⟩
  obtain ⟨u38, t38⟩ : ∃ u, A1.tmps.getD 38 undef = u := ⟨_, rfl⟩
  obtain ⟨u39, t39⟩ : ∃ u, A1.tmps.getD 39 undef = u := ⟨_, rfl⟩
  obtain ⟨u40, t40⟩ : ∃ u, A1.tmps.getD 40 undef = u := ⟨_, rfl⟩
  obtain ⟨u41, t41⟩ : ∃ u, A1.tmps.getD 41 undef = u := ⟨_, rfl⟩
  obtain ⟨u42, t42⟩ : ∃ u, A1.tmps.getD 42 undef = u := ⟨_, rfl⟩
  obtain ⟨u43, t43⟩ : ∃ u, A1.tmps.getD 43 undef = u := ⟨_, rfl⟩
  obtain ⟨u44, t44⟩ : ∃ u, A1.tmps.getD 44 undef = u := ⟨_, rfl⟩
  obtain ⟨u45, t45⟩ : ∃ u, A1.tmps.getD 45 undef = u := ⟨_, rfl⟩
  obtain ⟨u46, t46⟩ : ∃ u, A1.tmps.getD 46 undef = u := ⟨_, rfl⟩
  obtain ⟨u47, t47⟩ : ∃ u, A1.tmps.getD 47 undef = u := ⟨_, rfl⟩
  obtain ⟨u48, t48⟩ : ∃ u, A1.tmps.getD 48 undef = u := ⟨_, rfl⟩
  obtain ⟨u49, t49⟩ : ∃ u, A1.tmps.getD 49 undef = u := ⟨_, rfl⟩
  obtain ⟨u50, t50⟩ : ∃ u, A1.tmps.getD 50 undef = u := ⟨_, rfl⟩
  obtain ⟨u51, t51⟩ : ∃ u, A1.tmps.getD 51 undef = u := ⟨_, rfl⟩
  obtain ⟨u52, t52⟩ : ∃ u, A1.tmps.getD 52 undef = u := ⟨_, rfl⟩
  obtain ⟨u53, t53⟩ : ∃ u, A1.tmps.getD 53 undef = u := ⟨_, rfl⟩
  obtain ⟨u54, t54⟩ : ∃ u, A1.tmps.getD 54 undef = u := ⟨_, rfl⟩
  obtain ⟨u55, t55⟩ : ∃ u, A1.tmps.getD 55 undef = u := ⟨_, rfl⟩
  obtain ⟨u56, t56⟩ : ∃ u, A1.tmps.getD 56 undef = u := ⟨_, rfl⟩
  obtain ⟨u57, t57⟩ : ∃ u, A1.tmps.getD 57 undef = u := ⟨_, rfl⟩
  obtain ⟨u58, t58⟩ : ∃ u, A1.tmps.getD 58 undef = u := ⟨_, rfl⟩
  obtain ⟨u59, t59⟩ : ∃ u, A1.tmps.getD 59 undef = u := ⟨_, rfl⟩
  obtain ⟨u60, t60⟩ : ∃ u, A1.tmps.getD 60 undef = u := ⟨_, rfl⟩
  obtain ⟨u61, t61⟩ : ∃ u, A1.tmps.getD 61 undef = u := ⟨_, rfl⟩
  obtain ⟨u62, t62⟩ : ∃ u, A1.tmps.getD 62 undef = u := ⟨_, rfl⟩
  obtain ⟨u63, t63⟩ : ∃ u, A1.tmps.getD 63 undef = u := ⟨_, rfl⟩
  obtain ⟨u64, t64⟩ : ∃ u, A1.tmps.getD 64 undef = u := ⟨_, rfl⟩
  obtain ⟨u65, t65⟩ : ∃ u, A1.tmps.getD 65 undef = u := ⟨_, rfl⟩
  obtain ⟨u66, t66⟩ : ∃ u, A1.tmps.getD 66 undef = u := ⟨_, rfl⟩
  obtain ⟨u67, t67⟩ : ∃ u, A1.tmps.getD 67 undef = u := ⟨_, rfl⟩
  obtain ⟨u68, t68⟩ : ∃ u, A1.tmps.getD 68 undef = u := ⟨_, rfl⟩
  obtain ⟨u69, t69⟩ : ∃ u, A1.tmps.getD 69 undef = u := ⟨_, rfl⟩
  obtain ⟨u70, t70⟩ : ∃ u, A1.tmps.getD 70 undef = u := ⟨_, rfl⟩
  obtain ⟨u71, t71⟩ : ∃ u, A1.tmps.getD 71 undef = u := ⟨_, rfl⟩
  obtain ⟨u72, t72⟩ : ∃ u, A1.tmps.getD 72 undef = u := ⟨_, rfl⟩
  obtain ⟨u73, t73⟩ : ∃ u, A1.tmps.getD 73 undef = u := ⟨_, rfl⟩
  obtain ⟨u74, t74⟩ : ∃ u, A1.tmps.getD 74 undef = u := ⟨_, rfl⟩
  obtain ⟨u75, t75⟩ : ∃ u, A1.tmps.getD 75 undef = u := ⟨_, rfl⟩
  obtain ⟨u76, t76⟩ : ∃ u, A1.tmps.getD 76 undef = u := ⟨_, rfl⟩
  obtain ⟨u77, t77⟩ : ∃ u, A1.tmps.getD 77 undef = u := ⟨_, rfl⟩
  obtain ⟨u78, t78⟩ : ∃ u, A1.tmps.getD 78 undef = u := ⟨_, rfl⟩
  obtain ⟨u79, t79⟩ : ∃ u, A1.tmps.getD 79 undef = u := ⟨_, rfl⟩
  obtain ⟨u80, t80⟩ : ∃ u, A1.tmps.getD 80 undef = u := ⟨_, rfl⟩
  obtain ⟨u81, t81⟩ : ∃ u, A1.tmps.getD 81 undef = u := ⟨_, rfl⟩
  obtain ⟨u82, t82⟩ : ∃ u, A1.tmps.getD 82 undef = u := ⟨_, rfl⟩
  obtain ⟨u83, t83⟩ : ∃ u, A1.tmps.getD 83 undef = u := ⟨_, rfl⟩
  obtain ⟨tm, df⟩ := A1
  simp only at *
  have hLt := arr_litT tm
  rw [hsz] at hLt
  simp only [List.range, List.range.loop, List.map] at hLt
  rw [t0, t1, t2, t3, r4, t5, t6, t7, t8, t9, t10, t11, t12, t13, t14, t15, t16, t17, t18, t19, t20, t21, t22, t23, t24, t25, t26, t27, t28, t29, t30, t31, t32, t33, t34, t35, t36, t37, t38, t39, t40, t41, t42, t43, t44, t45, t46, t47, t48, t49, t50, t51, t52, t53, t54, t55, t56, t57, t58, t59, t60, t61, t62, t63, t64, t65, t66, t67, t68, t69, t70, t71, t72, t73, t74, t75, t76, t77, t78, t79, t80, t81, t82, t83] at hLt
  subst hLt hdf
  clear t0 t1 t2 t3 r4 t5 t6 t7 t8 t9 t10 t11 t12 t13 t14 t15 t16 t17 t18 t19 t20 t21 t22 t23 t24 t25 t26 t27 t28 t29 t30 t31 t32 t33 t34 t35 t36 t37 t38 t39 t40 t41 t42 t43 t44 t45 t46 t47 t48 t49 t50 t51 t52 t53 t54 t55 t56 t57 t58 t59 t60 t61 t62 t63 t64 t65 t66 t67 t68 t69 t70 t71 t72 t73 t74 t75 t76 t77 t78 t79 t80 t81 t82 t83 hsz
  go_wp2_with fail
  go_ret
  exact ⟨rfl, HB.out⟩
end Go.Proofs.Ytaopmcpihdcaiaa

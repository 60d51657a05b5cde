/- What nat.ModExp comes to, called with any three numbers. -/
import Derived.Test.YtgegkffigjogcaaNPow
import Derived.Test.YtgegkffigjogcaaNAdd
namespace Go.Proofs.Ytgegkffigjogcaa
open Go.RowKit

theorem blN_le {V k : Nat} (h : V < 2 ^ k) : blN V ≤ k := by
  unfold blN
  by_cases e : V = 0
  · rw [if_pos e]; exact Nat.zero_le _
  · rw [if_neg e]; exact (Nat.log2_lt e).2 h
theorem blN_top2 (V : Nat) : V / 2 ^ blN V = 0 := by
  unfold blN
  by_cases e : V = 0
  · subst e; simp
  · rw [if_neg e]; exact Nat.div_eq_of_lt ((Nat.log2_lt e).1 (Nat.lt_succ_self _))
theorem blN_zero {V : Nat} (h : blN V = 0) : V = 0 := by
  unfold blN at h
  by_cases e : V = 0
  · exact e
  · rw [if_neg e] at h; omega
theorem blN_nz {V : Nat} (h : V ≠ 0) : blN V ≠ 0 := fun h2 => h (blN_zero h2)
theorem pow_32 (k : Nat) : (4294967296 : Nat) ^ k = 2 ^ (32 * k) := by rw [Nat.pow_mul]
theorem half_step (E i : Nat) : E / 2 ^ i = 2 * (E / 2 ^ (i + 1)) + E / 2 ^ i % 2 := by
  rw [Nat.pow_succ, ← Nat.div_div_eq_div_mul]
  omega
theorem pow_even {A E i M : Nat} (h : E / 2 ^ i % 2 = 0) : (A ^ (E / 2 ^ (i + 1)) % M) * (A ^ (E / 2 ^ (i + 1)) % M) % M = A ^ (E / 2 ^ i) % M := by
  have h2 := half_step E i
  rw [h] at h2
  generalize E / 2 ^ (i + 1) = q at h2 ⊢
  rw [h2, Nat.add_zero, Nat.two_mul, Nat.pow_add, ← Nat.mul_mod]
theorem pow_odd {A E i M : Nat} (h : E / 2 ^ i % 2 = 1) : ((A ^ (E / 2 ^ (i + 1)) % M) * (A ^ (E / 2 ^ (i + 1)) % M) % M) * (A % M) % M = A ^ (E / 2 ^ i) % M := by
  have h2 := half_step E i
  rw [h] at h2
  generalize E / 2 ^ (i + 1) = q at h2 ⊢
  rw [h2, Nat.pow_succ, Nat.two_mul, Nat.pow_add, ← Nat.mul_mod (A ^ q), ← Nat.mul_mod]
/-- Of three numbers what is wrong with the first that can't be. -/
def cd3 (A B C : Nat) : Nat := if cd2 A B = 0 then cdN C else cd2 A B
theorem check_three {w : World} {g : Nat} {va vb' vc : Value} {A B C : Nat} (hA : NN A va w) (hB : NN B vb' w) (hC : NN C vc w) (h0 : w.cell? ⟨g, 0, none⟩ = some va) (h1 : w.cell? ⟨g, 1, none⟩ = some vb') (h2 : w.cell? ⟨g, 2, none⟩ = some vc) :
    Calls Try.prog 40 #[.slice (some ⟨g, 0, none⟩) 3 3] w fun e w' => e = .returned (.int .i64 ((cd3 A B C : Nat) : Int)) ∧ w = w' := by
  have H : ∀ {V : Nat} {v : Value}, NN V v w → Calls Try.prog 22 #[v] w fun e w' => e = .returned (.int .i64 ((cdN V : Nat) : Int)) ∧ w = w' := by
    rintro V v ⟨a, n, ca, f, rfl, ha, rfl⟩
    exact check_nv ha
  have c0 := H hA
  have c1 := H hB
  have c2 := H hC
  obtain ⟨S, s0, s1, s2⟩ : ∃ S : Nat → Value, S 0 = va ∧ S 1 = vb' ∧ S 2 = vc := ⟨fun j => if j = 0 then va else if j = 1 then vb' else vc, rfl, rfl, rfl⟩
  obtain ⟨k0, hk0⟩ : ∃ k0, cdN A = k0 := ⟨_, rfl⟩
  obtain ⟨k1, hk1⟩ : ∃ k1, cdN B = k1 := ⟨_, rfl⟩
  obtain ⟨k2, hk2⟩ : ∃ k2, cdN C = k2 := ⟨_, rfl⟩
  unfold cd3 cd2
  rw [hk0] at c0 ⊢
  rw [hk1] at c1 ⊢
  rw [hk2] at c2 ⊢
  clear hk0 hk1 hk2
  obtain ⟨c, e0, e1, e2⟩ : ∃ c : Nat → Nat, c 0 = k0 ∧ c 1 = k1 ∧ c 2 = k2 := ⟨fun j => if j = 0 then k0 else if j = 1 then k1 else k2, rfl, rfl, rfl⟩
  have h := check_any g 3 S c (by omega) w (fun j hj => by
    have : j = 0 ∨ j = 1 ∨ j = 2 := by omega
    rcases this with rfl | rfl | rfl
    · rw [s0]; exact h0
    · rw [s1]; exact h1
    · rw [s2]; exact h2) (fun j hj => by
    have : j = 0 ∨ j = 1 ∨ j = 2 := by omega
    rcases this with rfl | rfl | rfl
    · rw [s0, e0]; exact c0
    · rw [s1, e1]; exact c1
    · rw [s2, e2]; exact c2)
  refine h.mono fun e w' ⟨he, hw⟩ => ⟨he.trans ?_, hw⟩
  simp only [chk, e0, e1, e2, if_true]
theorem three_cells (w : World) (x y z : Value) (T : TypeId) : (w.alloc (.cells #[x, y, z] T)).cell? ⟨w.heap.size, 0, none⟩ = some x ∧ (w.alloc (.cells #[x, y, z] T)).cell? ⟨w.heap.size, 1, none⟩ = some y ∧ (w.alloc (.cells #[x, y, z] T)).cell? ⟨w.heap.size, 2, none⟩ = some z := by
  refine ⟨?_, ?_, ?_⟩ <;> rw [World.cell?_alloc_new] <;> rfl
theorem cd3_ok {A B C : Nat} (h : cd3 A B C = 0) : ¬ LIM ≤ A ∧ ¬ LIM ≤ B ∧ ¬ LIM ≤ C := by
  unfold cd3 at h
  by_cases h1 : cd2 A B = 0
  · rw [if_pos h1] at h; exact ⟨(cd2_ok h1).1, (cd2_ok h1).2, cdN_ok h⟩
  · rw [if_neg h1] at h; exact absurd h h1
/-- A list of one part that is not nought. -/
theorem one_pv (w : World) (c : Nat) (t : TypeId) (hc : c < 4294967296) (h0 : c ≠ 0) : PV c (.slice (some ⟨w.heap.size, 0, none⟩) 1 1) (w.alloc (.cells #[.int .u32 (c : Nat)] t)) :=
  ⟨_, 1, 1, fun _ => c, rfl, ⟨Nat.le_refl _, .inr ⟨w.heap.size, 0, rfl, by simp, fun j hj => by
      obtain rfl : j = 0 := by omega
      rw [cell_of_row _ _ _ _ _ _ (heap_alloc_new _ _)]; rfl⟩, fun q hq => by cases hq; simp, fun j _ => hc, by omega⟩, by simp [vb], .inr h0⟩
/-- What is told of A raised to E modulo M. -/
def cdP (A E M : Nat) : Nat := if cd3 A E M = 0 then (if M = 0 then 1 else 0) else cd3 A E M

set_option maxRecDepth 100000 in
set_option maxHeartbeats 2000000 in
-- WHERE ALL GOES WELL.
theorem exp_main {a : Option Addr} {n ca : Nat} {f : Nat → Nat} {e2 : Option Addr} {ne ce : Nat} {fe : Nat → Nat} {b : Option Addr} {nm cb : Nat} {g : Nat → Nat} {A E M : Nat} {w : World}
    (ha : NvA w a n ca f) (hav : vb 4294967296 f n = A) (he : NvA w e2 ne ce fe) (hev : vb 4294967296 fe ne = E) (hb : NvA w b nm cb g) (hbv : vb 4294967296 g nm = M) (hc : cd3 A E M = 0) (hM0 : M ≠ 0) :
    Calls Try.prog 31 #[.slice a n ca, .slice e2 ne ce, .slice b nm cb] w (Ans 0 (A ^ E % M) w) := by
  have hw1 : Below w.heap.size w (w.alloc (.cells #[.slice a n ca, .slice e2 ne ce, .slice b nm cb] 23)) := (Below.refl _ _).alloc (Nat.le_refl _) _
  have tc := three_cells w (.slice a n ca) (.slice e2 ne ce) (.slice b nm cb) 23
  have HC := Lib.hid (check_three (A := A) (B := E) (C := M) (NN.below ⟨a, n, ca, f, rfl, ha, hav⟩ hw1) (NN.below ⟨e2, ne, ce, fe, rfl, he, hev⟩ hw1) (NN.below ⟨b, nm, cb, g, rfl, hb, hbv⟩ hw1) tc.1 tc.2.1 tc.2.2)
  rw [hc] at HC
  clear tc
  obtain ⟨lA, lE, lM⟩ := cd3_ok hc
  clear hc
  have ha1 := ha.below hw1
  have he1 := he.below hw1
  have hb1 := hb.below hw1
  have hn1 : tn f n ≤ 1024 := Nat.le_of_not_lt (fun h => lA (by rw [← hav]; exact (lim_iff ha.lt).1 h))
  have hn2 : tn fe ne ≤ 1024 := Nat.le_of_not_lt (fun h => lE (by rw [← hev]; exact (lim_iff he.lt).1 h))
  have hn3 : tn g nm ≤ 1024 := Nat.le_of_not_lt (fun h => lM (by rw [← hbv]; exact (lim_iff hb.lt).1 h))
  have HLIM := Lib.hid lM
  clear lA lE lM
  have HLM := Lib.hid (len_nv hb1)
  have HLE := Lib.hid (fun w' (hx : Below (w.alloc (.cells #[.slice a n ca, .slice e2 ne ce, .slice b nm cb] 23)).heap.size (w.alloc (.cells #[.slice a n ca, .slice e2 ne ce, .slice b nm cb] 23)) w') => len_nv (he1.below hx))
  rw [hbv] at HLM
  rw [hev] at HLE
  have elm : (((blN M : Nat) : Int) == 0) = false := by simp [blN_nz hM0]
  have HT := Lib.hid (trim_nv hb1)
  obtain ⟨k, hk⟩ : ∃ k, tn g nm = k + 1 := by
    refine ⟨tn g nm - 1, ?_⟩
    rcases Nat.eq_zero_or_pos (tn g nm) with h | h
    · exfalso; apply hM0; rw [← hbv, ← vb_tn, h]; rfl
    · omega
  have hkt : g k ≠ 0 := by
    have := tn_top g nm
    rw [hk] at this
    rcases this with h | h
    · omega
    · simpa using h
  have hbm : vb 4294967296 g (k + 1) = M := by rw [← hk, vb_tn, hbv]
  have hbt := hb1.trim
  rw [hk] at HT hn3 hbt
  clear hk hb1 hb hbv
  obtain ⟨s, hs⟩ : ∃ s, 32 - Lib.bitLen (g k) = s := ⟨_, rfl⟩
  obtain ⟨s32, sn1, sn2⟩ := norm_bits (hbt.lt k (by omega)) hkt hs.symm
  have hh := headroom_any b k cb g (hbt.lt k (by omega)) (by omega) _ hbt.rd
  rw [hs] at hh
  clear hs
  have HH := Lib.hid hh; clear hh
  have HRB := Lib.hid (raise_any b (k + 1) cb s g (by omega) s32 hbt.lt _ hbt.rd)
  have HPL := Lib.hid (fun w' (hx : Below (w.alloc (.cells #[.slice a n ca, .slice e2 ne ce, .slice b nm cb] 23)).heap.size (w.alloc (.cells #[.slice a n ca, .slice e2 ne ce, .slice b nm cb] 23)) w') => plain_cut a n ca f (by have := ha.few; omega) ha.cap w' (ha1.rd.below hx))
  have hf1 : ∀ j, j < tn f n → f j < 4294967296 := fun j hj => ha.lt j (Nat.lt_of_lt_of_le hj (tn_le f n))
  have hav1 : vb 4294967296 f (tn f n) = A := by rw [vb_tn, hav]
  obtain ⟨n1, hn1e⟩ : ∃ n1, tn f n = n1 := ⟨_, rfl⟩
  rw [hn1e] at HPL hn1 hf1 hav1
  clear hn1e ha1 ha hav
  have hbl : blN E ≤ 32 * tn fe ne := blN_le (by rw [← pow_32, ← hev, ← vb_tn]; exact vb_lt (fun j hj => he.lt j (Nat.lt_of_lt_of_le hj (tn_le fe ne))))
  have hbne : ∀ i, i < blN E → i / 32 < ne := fun i hi => by have := tn_le fe ne; omega
  have hE0 := blN_top2 E
  obtain ⟨bl, hble⟩ : ∃ bl, blN E = bl := ⟨_, rfl⟩
  rw [hble] at HLE hbl hbne hE0
  have hbl2 : (bl : Int) ≤ 32768 := by omega
  clear hble hbl hn2 he
  have HBNE := Lib.hid hbne; clear hbne
  have HE0 := Lib.hid hE0; clear hE0
  have HW1 := Lib.hid hw1; clear hw1
  have HE := Lib.hid he1; clear he1
  have HEV := Lib.hid hev; clear hev
  have HB := Lib.hid hbt; clear hbt
  have HBM := Lib.hid hbm; clear hbm
  have HKT := Lib.hid hkt; clear hkt
  have SN := Lib.hid (And.intro sn1 sn2); clear sn1 sn2
  have HF1 := Lib.hid (And.intro hf1 hav1); clear hf1 hav1
  have HM0 := Lib.hid hM0; clear hM0
  obtain ⟨w1, hw1e⟩ : ∃ w1, w.alloc (.cells #[.slice a n ca, .slice e2 ne ce, .slice b nm cb] 23) = w1 := ⟨_, rfl⟩
  rw [hw1e] at HC HLM HLE HT HW1 HE HB HH HRB HPL
  obtain ⟨i0, hi, hz0, hz1, hz2⟩ := info_parts info32
  have hk0 : (0 : Int) ≤ k := by omega
  have hk1 : (k : Int) ≤ 1023 := by omega
  clear hn3
  go_enter Try.func31, Try.ntmps31
  go_wp2_with fail
  clear hw1e
  refine HC.out.mono ?_
  rintro e w' ⟨rfl, rfl⟩
  go_wp2_with fail
  refine HLM.out.mono ?_
  rintro e w' ⟨rfl, rfl⟩
  go_wp2_with fail
  refine HT.out.mono ?_
  rintro e w' ⟨rfl, rfl⟩
  go_wp2_with fail
  refine HH.out.mono ?_
  rintro e w' ⟨rfl, rfl⟩
  go_wp2_with fail
  refine HRB.out.mono ?_
  rintro e w2 ⟨V, d, rfl, hV, hWV, hb2, hdl, hdn⟩
  obtain ⟨hz, hdn2, hdm⟩ := norm_top (B := 4294967296) (by omega) (fun j hj => HB.out.lt j (by omega)) (by have := SN.out.1; omega) SN.out.2 hdl hdn
  rw [HBM.out] at hdn2
  have hsl := slice_nat (some ⟨V, 0, none⟩) (k + 1 + 1) (k + 1 + 1) (k + 1) (by omega)
  have HV := Lib.hid (And.intro hV (And.intro hWV (And.intro hb2 (And.intro (fun j (hj : j < k + 1) => hdl j (by omega)) (And.intro hdn2 (show 2147483648 ≤ d k by omega))))))
  clear hV hWV hb2 hdl hdn hdn2 hdm hz
  obtain ⟨MM, hMM⟩ : ∃ MM, vb 4294967296 d (k + 1) = MM := ⟨_, rfl⟩
  have HMM := Lib.hid hMM; clear hMM
  go_wp2_with fail
  refine (HPL.out _ HV.out.2.2.1).mono ?_
  rintro e w3 ⟨a1, rfl, hnone, hrd, hq, hb3⟩
  have HP := Lib.hid (And.intro hnone (And.intro hrd (And.intro hq (And.intro (HV.out.2.2.1.trans (hb3.mono HV.out.2.2.1.size)) hb3)))); clear hnone hrd hq hb3
  have hn1' : (n1 : Int) ≤ 1024 := by omega
  go_wp2_with (at_builtin; refine wpList_append_grows _ rfl _ _ 23 rfl 32 i0 (.int .u32 0) 1 4 Try.underlying23 hi hz0 hz1 hz2 rfl (by decide) a1 n1 n1 (pl f n1) rfl (fun h => ⟨HP.out.1 h, HP.out.1 h⟩) (by rw [pl_len, Nat.mul_one]) ?d1 ⟨w3.heap.size, 0, none⟩ 1 1 [.int .u32 0] rfl rfl ?d2 ?d3 (by omega) ?d4 ?d5 ?_)
  case d1 => exact rd_add (HP.out.2.1.below ((Below.refl _ _).alloc (Nat.le_refl _) _))
  case d2 => exact nought_at w3 _ _
  case d3 => intro u hu; simp only [List.mem_cons, List.not_mem_nil, or_false] at hu; subst hu; rfl
  case d4 => unfold maxLen; omega
  case d5 => omega
  intro v' w4 hown hgrow
  rw [pl_behind] at hown
  obtain ⟨S, cS, rfl, hcS, hS, hWS⟩ := own_wr hown (by omega)
  have hb4 : Below w3.heap.size w3 w4 := ((Below.refl _ _).alloc (Nat.le_refl _) _).grown hgrow (by simp) (fun j hj => by cases hj)
  have hbw := HP.out.2.2.2.1.trans (hb4.mono HP.out.2.2.2.1.size)
  have hS3 : w3.heap.size ≤ S := Nat.le_trans (by simp) hS
  have hV3 : V < w2.heap.size := HV.out.2.1.1
  have hb24 := HP.out.2.2.2.2.trans (hb4.mono HP.out.2.2.2.2.size)
  have hoff : Off S (some ⟨V, 0, none⟩) := fun q hq => by
    cases hq
    exact Nat.ne_of_lt (Nat.lt_of_lt_of_le (Nat.lt_of_lt_of_le hV3 HP.out.2.2.2.2.size) hS3)
  have hmo := modulo_any S (n1 + 1) cS (beh f n1) (some ⟨V, 0, none⟩) k (k + 1 + 1) d (by omega) (by omega) (by omega) hcS (beh_lt HF1.out.1) (beh_top f n1) HV.out.2.2.2.1 HV.out.2.2.2.2.2 hoff w4 hWS ((HV.out.2.1.less (k + 1) (by omega)).rd.below hb24)
  rw [beh_vb, HF1.out.2, HMM.out] at hmo
  have HM := Lib.hid hmo; clear hmo
  have HY := Lib.hid (And.intro hWS (And.intro hcS (And.intro hbw (And.intro (Nat.le_trans HP.out.2.2.2.2.size hS3) hb24))))
  clear hown hgrow hb4 hbw hS3 hoff hS hWS hcS hV3 hb24
  go_wp2_with fail
  refine HM.out.mono ?_
  intro e w5 h
  have hbt5 : Below w2.heap.size w2 w5 := by
    obtain ⟨r, -, hh, -, -⟩ := h
    exact But.below HY.out.2.2.2.2 hh.1 HY.out.2.2.2.1
  obtain ⟨vbase, rfl, hpb, hb5⟩ := mod_done h HY.out.1 HY.out.2.1 (by omega) HY.out.2.2.1 (Nat.le_trans HV.out.2.2.1.size HY.out.2.2.2.1)
  obtain ⟨w6, hw6⟩ : ∃ w6, w5.alloc (.cells #[.int .u32 1] 32) = w6 := ⟨_, rfl⟩
  have hal : Below w5.heap.size w5 w6 := by rw [← hw6]; exact (Below.refl _ _).alloc (Nat.le_refl _) _
  have hone : PV 1 (.slice (some ⟨w5.heap.size, 0, none⟩) 1 1) w6 := by rw [← hw6]; exact one_pv w5 1 _ (by omega) (by omega)
  have hb6 : Below w1.heap.size w1 w6 := hb5.trans (hal.mono hb5.size)
  have HW6 := Lib.hid (And.intro hone (And.intro hb6 (And.intro (hpb.below hal) (hbt5.trans (hal.mono hbt5.size)))))
  clear hal hone hb6 hpb hb5 hbt5 h
  go_wp2_with fail
  clear hw6
  refine (HLE.out w6 HW6.out.2.1).mono ?_
  rintro e w' ⟨rfl, rfl⟩
  have hbl0 : (0 : Int) ≤ bl := by omega
  have hms : MM < 4294967296 ^ (k + 1) := by rw [← HMM.out]; exact vb_lt HV.out.2.2.2.1
  have HMS := Lib.hid hms; clear hms
  have hstart : PV (A ^ (E / 2 ^ bl) % MM) (.slice (some ⟨w5.heap.size, 0, none⟩) 1 1) w6 := by
    have h1 : vb 4294967296 d (k + 1) = vb 4294967296 d k + 4294967296 ^ k * d k := rfl
    have h2 : 1 * d k ≤ 4294967296 ^ k * d k := Nat.mul_le_mul_right _ (Nat.pow_pos (by omega))
    have h3 := HV.out.2.2.2.2.2
    rw [HMM.out] at h1
    rw [HE0.out, Nat.pow_zero, Nat.mod_eq_of_lt (by omega)]
    exact HW6.out.1
  have HMP : Hid (0 < MM) := Lib.hid (by
    have h1 : vb 4294967296 d (k + 1) = vb 4294967296 d k + 4294967296 ^ k * d k := rfl
    have h2 : 1 * d k ≤ 4294967296 ^ k * d k := Nat.mul_le_mul_right _ (Nat.pow_pos (by omega))
    have h3 := HV.out.2.2.2.2.2
    rw [HMM.out] at h1
    omega)
  have HST := Lib.hid hstart; clear hstart
  go_wp2
  go_loopw [11, 12] (fun pv iv wx => ∃ (z : Int) (c : Nat), c ≤ bl ∧ z = (c : Int) - 1 ∧ iv = .int .i64 z ∧ Hid (PV (A ^ (E / 2 ^ c) % MM) pv wx ∧ Below w6.heap.size w6 wx)) (fun _ iv _ => (intOf iv + 1).toNat)
  case atStart => exact ⟨(bl : Int) - 1, bl, Nat.le_refl _, rfl, rfl, Lib.hid ⟨HST.out, Below.refl _ _⟩⟩
  case round =>
    obtain ⟨z, c, hcc, hz, rfl, H⟩ := hrel
    cases c with
    | zero =>
      have hz1 : z < 0 := by omega
      have hzf : decide (0 ≤ z) = false := by rw [decide_eq_false_iff_not]; omega
      have HZ := Lib.hid hz; clear hz
      obtain ⟨⟨a2, n2, c2, f2, rfl, hnv, hval, htop⟩, hbx⟩ := H.out
      have hn2 : n2 ≤ k + 1 := (plain_len (by omega) hnv.lt htop).1 (by rw [hval]; exact Nat.lt_trans (Nat.mod_lt _ HMP.out) HMS.out)
      have hbx1 := HW6.out.2.1.trans (hbx.mono HW6.out.2.1.size)
      have hdv := divide_any a2 n2 c2 b k cb f2 g (by omega) (by omega) hnv.lt HB.out.lt HKT.out wr (hnv.rd) (HB.out.rd.below hbx1)
      rw [hval, HBM.out] at hdv
      have HDV := Lib.hid hdv; clear hdv
      have HBX := Lib.hid hbx1; clear hbx1 hbx hval htop
      have hn20 : (n2 : Int) ≤ 1024 := by omega
      have HNV := Lib.hid hnv; clear hnv
      obtain ⟨G, hG⟩ : ∃ G, A ^ E % M = G := ⟨_, rfl⟩
      have hGM : cdN G = 0 := by
        unfold cdN
        rw [if_neg]
        intro h
        have h1 : G < M := by rw [← hG]; exact Nat.mod_lt _ (Nat.pos_of_ne_zero HM0.out)
        exact HLIM.out (Nat.le_of_lt (Nat.lt_of_le_of_lt h h1))
      have hmode : A ^ (E / 2 ^ 0) % MM % M = G := by
        rw [← hG, Nat.pow_zero, Nat.div_one]
        exact Nat.mod_mod_of_dvd _ ⟨2 ^ s, by rw [← HMM.out, HV.out.2.2.2.2.1, Nat.mul_comm]⟩
      have HMODE := Lib.hid hmode; clear hmode
      have HG := Lib.hid hG; clear hG
      have HGM := Lib.hid hGM; clear hGM
      clear H
      go_wp2_with fail
      refine HDV.out.mono ?_
      rintro e w7 ⟨Q, nq, cq, R, cr, q, r, rfl, -, -, hcr, -, -, -, -, hWR, -, hrl, -, hvr, hb7⟩
      rw [HMODE.out] at hvr
      have hans := answer_nv (w := w7) (a := some ⟨R, 0, none⟩) (n := n2 + 1) (cap := cr) (f := r) ⟨hcr, hWR.rd, fun q hq => by cases hq; exact hWR.1, hrl, by omega⟩
      rw [hvr] at hans
      have HANS := Lib.hid hans; clear hans
      have HB7 := Lib.hid (HW1.out.trans ((HBX.out.trans (hb7.mono HBX.out.size)).mono HW1.out.size)); clear hb7 hvr hrl hWR hcr
      go_wp2_with fail
      refine HANS.out.mono ?_
      rintro e w8 ⟨v, rfl, h1, h2, h3⟩
      have HF : Hid (Ans (cdN G) G w (.returned (.tuple #[v, .int .i64 (cdN G : Nat)])) w8) := Lib.hid (Ans.later ⟨v, rfl, h1, h2, h3⟩ HB7.out)
      clear h1 h2 h3
      go_wp2
      go_ret2
      have h := HF.out
      rw [HGM.out] at h ⊢
      rw [HG.out]
      exact h
    | succ i =>
      obtain rfl : z = (i : Int) := by omega
      have hi0 : (0 : Int) ≤ i := by omega
      have hib : i < bl := by omega
      obtain ⟨hpv, hbx⟩ := H.out
      have hxs : A ^ (E / 2 ^ (i + 1)) % MM < 4294967296 ^ (k + 1) := Nat.lt_trans (Nat.mod_lt _ HMP.out) HMS.out
      have hbs : A % MM < 4294967296 ^ (k + 1) := Nat.lt_trans (Nat.mod_lt _ HMP.out) HMS.out
      have hb2x := HW6.out.2.2.2.trans (hbx.mono HW6.out.2.2.2.size)
      have hrd := (HV.out.2.1.less (k + 1) (by omega)).rd.below hb2x
      have hblk : ∀ q, some (⟨V, 0, none⟩ : Addr) = some q → q.block < wr.heap.size := fun q hq => by cases hq; exact Nat.lt_of_lt_of_le HV.out.2.1.1 hb2x.size
      have ht1 := times_mod hpv hpv (some ⟨V, 0, none⟩) k (k + 1 + 1) d (by omega) HV.out.2.2.2.1 HV.out.2.2.2.2.2 hrd hblk hxs hxs
      rw [HMM.out] at ht1
      have HT1 := Lib.hid ht1; clear ht1
      have HT2 := Lib.hid (fun (w7 : World) (hb7 : Below wr.heap.size wr w7) (Z : Nat) (v : Value) (hv : PV Z v w7) (hZ : Z < 4294967296 ^ (k + 1)) => times_mod hv ((HW6.out.2.2.1.below hbx).below hb7) (some ⟨V, 0, none⟩) k (k + 1 + 1) d (by omega) HV.out.2.2.2.1 HV.out.2.2.2.2.2 (hrd.below hb7) (fun q hq => Nat.lt_of_lt_of_le (hblk q hq) hb7.size) hZ hbs)
      rw [HMM.out] at HT2
      have HHB := Lib.hid (fun (w7 : World) (hb7 : Below wr.heap.size wr w7) => hasBit_nv (((HE.out.below HW6.out.2.1).below hbx).below hb7) i (HBNE.out i hib) (by omega))
      rw [HEV.out] at HHB
      have HBX := Lib.hid hbx
      clear hpv hbx hxs hbs hb2x hrd hblk hz
      cases hbit : (E / 2 ^ i % 2 == 1) with
      | false =>
        rw [hbit] at HHB
        have HBIT : Hid (E / 2 ^ i % 2 = 0) := Lib.hid (by
          have h1 : ¬ E / 2 ^ i % 2 = 1 := by simpa using hbit
          omega)
        clear hbit
        go_wp2_with fail
        refine HT1.out.mono ?_
        rintro e w7 ⟨v1, rfl, hv1, hb7⟩
        rw [pow_even HBIT.out] at hv1
        have H7 := Lib.hid (And.intro hv1 hb7); clear hv1 hb7
        go_wp2_with fail
        refine (HHB.out w7 H7.out.2).mono ?_
        rintro e w' ⟨rfl, rfl⟩
        go_wp2
        go_roundw
        case rel => exact ⟨(i : Int) - 1, i, by omega, rfl, rfl, Lib.hid ⟨H7.out.1, HBX.out.trans (H7.out.2.mono HBX.out.size)⟩⟩
        case measure => first | (simp [intOf]; done) | (simp [intOf]; omega)
      | true =>
        rw [hbit] at HHB
        have HBIT : Hid (E / 2 ^ i % 2 = 1) := Lib.hid (by simpa using hbit)
        clear hbit
        go_wp2_with fail
        refine HT1.out.mono ?_
        rintro e w7 ⟨v1, rfl, hv1, hb7⟩
        have H7 := Lib.hid (And.intro hv1 hb7); clear hv1 hb7
        go_wp2_with fail
        refine (HHB.out w7 H7.out.2).mono ?_
        rintro e w' ⟨rfl, rfl⟩
        go_wp2_with fail
        refine (HT2.out w7 H7.out.2 _ v1 H7.out.1 (Nat.lt_trans (Nat.mod_lt _ HMP.out) HMS.out)).mono ?_
        rintro e w8 ⟨v2, rfl, hv2, hb8⟩
        rw [pow_odd HBIT.out] at hv2
        have H8 := Lib.hid (And.intro hv2 (H7.out.2.trans (hb8.mono H7.out.2.size))); clear hv2 hb8
        go_wp2
        go_roundw
        case rel => exact ⟨(i : Int) - 1, i, by omega, rfl, rfl, Lib.hid ⟨H8.out.1, HBX.out.trans (H8.out.2.mono HBX.out.size)⟩⟩
        case measure => first | (simp [intOf]; done) | (simp [intOf]; omega)
set_option maxRecDepth 100000 in
set_option maxHeartbeats 1000000 in
-- WHAT nat.ModExp COMES TO.
theorem exp_api {A E M : Nat} {va ve vm : Value} {w : World} (hA : NN A va w) (hE : NN E ve w) (hM : NN M vm w) : Calls Try.prog 31 #[va, ve, vm] w (Ans (cdP A E M) (A ^ E % M) w) := by
  have hA' := hA
  have hE' := hE
  have hM' := hM
  obtain ⟨a, n, ca, f, rfl, ha, hav⟩ := hA'
  obtain ⟨e2, ne, ce, fe, rfl, he, hev⟩ := hE'
  obtain ⟨b, nm, cb, g, rfl, hb, hbv⟩ := hM'
  have hw1 : Below w.heap.size w (w.alloc (.cells #[.slice a n ca, .slice e2 ne ce, .slice b nm cb] 23)) := (Below.refl _ _).alloc (Nat.le_refl _) _
  have tc := three_cells w (.slice a n ca) (.slice e2 ne ce) (.slice b nm cb) 23
  have HC := Lib.hid (check_three (hA.below hw1) (hE.below hw1) (hM.below hw1) tc.1 tc.2.1 tc.2.2)
  clear tc
  by_cases h0 : cd3 A E M = 0
  · by_cases hm0 : M = 0
    · have ec : cdP A E M = 1 := by unfold cdP; rw [if_pos h0, if_pos hm0]
      rw [ec]
      rw [h0] at HC
      have HLM := Lib.hid (len_nv (hb.below hw1))
      rw [hbv, show blN M = 0 by rw [hm0]; rfl] at HLM
      have HW1 := Lib.hid hw1
      clear hw1 ha he hb hav hev hbv hA hE hM h0 hm0 ec
      go_enter Try.func31, Try.ntmps31
      go_wp2_with fail
      refine HC.out.mono ?_
      rintro e w' ⟨rfl, rfl⟩
      go_wp2_with fail
      refine HLM.out.mono ?_
      rintro e w' ⟨rfl, rfl⟩
      go_wp2
      go_ret2
      exact Ans.err (by omega) HW1.out
    · have ec : cdP A E M = 0 := by unfold cdP; rw [if_pos h0, if_neg hm0]
      rw [ec]
      exact exp_main ha hav he hev hb hbv h0 hm0
  · have ec : cdP A E M = cd3 A E M := by unfold cdP; rw [if_neg h0]
    rw [ec]
    clear ec
    obtain ⟨c, hc⟩ : ∃ c, cd3 A E M = c := ⟨_, rfl⟩
    rw [hc] at HC h0 ⊢
    have e0 : ((c : Int) != 0) = true := by simp [h0]
    have H0 := Lib.hid h0; clear h0 hav hev hbv ha he hb hc hA hE hM
    have HW1 := Lib.hid hw1; clear hw1
    go_enter Try.func31, Try.ntmps31
    go_wp2_with fail
    refine HC.out.mono ?_
    rintro e w' ⟨rfl, rfl⟩
    go_wp2
    go_ret2
    exact Ans.err H0.out HW1.out
end Go.Proofs.Ytgegkffigjogcaa

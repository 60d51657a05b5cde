/- What nat.Len, nat.hasBit, nat.modulo and nat.timesModulo come to. -/
import Derived.Test.YtgegkffigjogcaaNApi
import Derived.ArgAppend
namespace Go.Proofs.Ytgegkffigjogcaa
open Go.RowKit

/-- How many bits a number has. -/
def blN (V : Nat) : Nat := if V = 0 then 0 else Nat.log2 V + 1
theorem blN_top {f : Nat → Nat} {k : Nat} (hf : ∀ j, j < k + 1 → f j < 4294967296) (h : f k ≠ 0) : 32 * k + Lib.bitLen (f k) = blN (vb 4294967296 f (k + 1)) := by
  obtain ⟨h1, h2, h3⟩ := bitLen_bounds (f k) (by have := hf k (by omega); omega) h
  have hl := vb_lt (P := 4294967296) (f := f) (n := k) (fun j hj => hf j (by omega))
  have e : 4294967296 ^ k = 2 ^ (32 * k) := by rw [Nat.pow_mul]
  have hV : vb 4294967296 f (k + 1) = vb 4294967296 f k + 2 ^ (32 * k) * f k := by rw [← e]; rfl
  rw [e] at hl
  have hlow : 2 ^ (32 * k + (Lib.bitLen (f k) - 1)) ≤ vb 4294967296 f (k + 1) := by
    rw [hV, Nat.pow_add]
    have := Nat.mul_le_mul_left (2 ^ (32 * k)) h2
    omega
  have hhigh : vb 4294967296 f (k + 1) < 2 ^ (32 * k + Lib.bitLen (f k)) := by
    rw [hV, Nat.pow_add]
    have := Nat.mul_le_mul_left (2 ^ (32 * k)) (show f k + 1 ≤ 2 ^ Lib.bitLen (f k) from h3)
    rw [Nat.mul_add, Nat.mul_one] at this
    omega
  have hne : vb 4294967296 f (k + 1) ≠ 0 := by
    have : 0 < 2 ^ (32 * k + (Lib.bitLen (f k) - 1)) := Nat.pow_pos (by omega)
    omega
  unfold blN
  rw [if_neg hne, (Nat.log2_eq_iff hne).2 ⟨hlow, by rw [show 32 * k + (Lib.bitLen (f k) - 1) + 1 = 32 * k + Lib.bitLen (f k) by omega]; exact hhigh⟩]
  omega

set_option maxRecDepth 100000 in
set_option maxHeartbeats 1000000 in
theorem len_nv {w : World} {a : Option Addr} {n cap : Nat} {f : Nat → Nat} (h : NvA w a n cap f) : Calls Try.prog 26 #[.slice a n cap] w fun e w' => e = .returned (.int .i64 ((blN (vb 4294967296 f n) : Nat) : Int)) ∧ w = w' := by
  have HT := Lib.hid (trim_nv h)
  have ht := h.trim
  have htop := tn_top f n
  rw [← vb_tn]
  obtain ⟨m, hm⟩ : ∃ m, tn f n = m := ⟨_, rfl⟩
  rw [hm] at HT ht htop ⊢
  clear hm h
  rcases Nat.eq_zero_or_pos m with h0 | h0
  · have e0 : ((m : Int) == 0) = true := by simp [h0]
    have e1 : blN (vb 4294967296 f m) = 0 := by rw [h0]; rfl
    rw [e1]
    clear h0 e1 ht htop
    go_enter Try.func26, Try.ntmps26
    go_wp2_with fail
    refine HT.out.mono ?_
    rintro e w' ⟨rfl, rfl⟩
    go_wp2
    go_ret
    exact ⟨rfl, rfl⟩
  · obtain ⟨k, rfl⟩ : ∃ k, m = k + 1 := ⟨m - 1, by omega⟩
    have hfk : f k ≠ 0 := by rcases htop with h | h; omega; simpa using h
    have e1 := blN_top ht.lt hfk
    rw [← e1]
    obtain ⟨p, hix, -, -, ca⟩ := ht.rd.at_ cap k (by omega)
    have hfl := ht.lt k (by omega)
    have hkf := ht.few
    have hL : ∀ w, Calls Try.prog 53 #[.int .u32 (f k : Nat)] w fun e w' => e = .returned (.int .i64 (Lib.bitLen (f k) : Nat)) ∧ w = w' := fun w =>
      (Try.bits_Len32 (f k : Nat) w (by omega) (by omega)).mono fun e w' ⟨he, hw⟩ => ⟨by rw [he, Int.toNat_natCast], hw.symm⟩
    have HL := Lib.hid hL; clear hL
    have hb := bitLen32 _ hfl
    obtain ⟨B, hB⟩ : ∃ B, Lib.bitLen (f k) = B := ⟨_, rfl⟩
    rw [hB] at hb HL ⊢
    clear hB e1 hfl hfk htop h0 ht
    have e0 : ((k : Int) + 1 == 0) = false := by rw [beq_eq_false_iff_ne]; omega
    have e2 : (k : Int) + 1 - 1 = (k : Int) := by omega
    have hk0 : (0 : Int) ≤ k := by omega
    have hB0 : (0 : Int) ≤ B := by omega
    have hB1 : (B : Int) ≤ 32 := by omega
    go_enter Try.func26, Try.ntmps26
    go_wp2_with fail
    refine HT.out.mono ?_
    rintro e w' ⟨rfl, rfl⟩
    go_wp2_with fail
    refine (HL.out _).mono ?_
    rintro e w' ⟨rfl, rfl⟩
    go_wp2
    go_ret
    refine ⟨?_, rfl⟩
    show Ending.returned (.int .i64 (32 * (k : Int) + (B : Int))) = _
    simp
theorem bit_at {f : Nat → Nat} {n i : Nat} (hf : ∀ j, j < n → f j < 4294967296) (hi : i / 32 < n) : f (i / 32) / 2 ^ (i % 32) % 2 = vb 4294967296 f n / 2 ^ i % 2 := by
  have h := vb_digit hf (i / 32) hi
  rw [h]
  generalize vb 4294967296 f n = V
  have e : 4294967296 ^ (i / 32) = 2 ^ (32 * (i / 32)) := by rw [Nat.pow_mul]
  have e2 : (4294967296 : Nat) = 2 ^ (i % 32) * 2 ^ (32 - i % 32) := by rw [← Nat.pow_add, show i % 32 + (32 - i % 32) = 32 by omega]
  rw [e]
  have e3 : V / 2 ^ i = V / 2 ^ (32 * (i / 32)) / 2 ^ (i % 32) := by rw [Nat.div_div_eq_div_mul, ← Nat.pow_add, show 32 * (i / 32) + i % 32 = i by omega]
  rw [e3]
  generalize V / 2 ^ (32 * (i / 32)) = X
  rw [e2, Nat.mod_mul_right_div_self]
  exact Nat.mod_mod_of_dvd _ ⟨2 ^ (32 - i % 32 - 1), by rw [← Nat.pow_succ']; congr 1; omega⟩
set_option maxRecDepth 100000 in
theorem hasBit_nv {w : World} {a : Option Addr} {n cap : Nat} {f : Nat → Nat} (h : NvA w a n cap f) (i : Nat) (hi : i / 32 < n) (hil : (i : Int) ≤ 140737488355328) : Calls Try.prog 62 #[.slice a n cap, .int .i64 i] w fun e w' => e = .returned (.bool (vb 4294967296 f n / 2 ^ i % 2 == 1)) ∧ w = w' := by
  have hb := bit_at h.lt hi
  obtain ⟨q, hq⟩ : ∃ q : Nat, (i : Int) / 32 = (q : Int) := ⟨i / 32, by omega⟩
  obtain ⟨r, hr⟩ : ∃ r : Nat, (i : Int) % 32 = (r : Int) := ⟨i % 32, by omega⟩
  have eq : i / 32 = q := by omega
  have er : i % 32 = r := by omega
  rw [eq, er] at hb
  obtain ⟨p, hix, -, -, ca⟩ := h.rd.at_ cap q (by omega)
  have hi0 : (0 : Int) ≤ i := by omega
  have hr0 : (0 : Int) ≤ r := by omega
  have hr1 : (r : Int) < 32 := by omega
  have hfl := h.lt q (by omega)
  have hand : bits .and .u32 (((f q : Nat) : Int) / 2 ^ r) 1 = ((f q / 2 ^ r % 2 : Nat) : Int) := by
    have e1 : ((f q : Nat) : Int) / 2 ^ r = ((f q / 2 ^ r : Nat) : Int) := by simp
    have h1 : f q / 2 ^ r < 4294967296 := Nat.lt_of_le_of_lt (Nat.div_le_self _ _) hfl
    have h2 := (bits_u32_nat (f q / 2 ^ r) 1 h1 (by omega)).1
    rw [e1]
    refine Eq.trans h2 ?_
    rw [Nat.and_one_is_mod]
  rw [hb] at hand
  obtain ⟨b, hbb⟩ : ∃ b, vb 4294967296 f n / 2 ^ i % 2 = b := ⟨_, rfl⟩
  rw [hbb] at hand ⊢
  have HAND := Lib.hid hand; clear hand
  have HE := Lib.hid eq; clear eq
  have HE2 := Lib.hid er; clear er
  clear hb hbb hfl hi
  go_enter Try.func62, Try.ntmps62
  go_wp2
  go_ret
  refine ⟨?_, rfl⟩
  show Ending.returned (.bool (bits BinOp.and IntKind.u32 (((f q : Nat) : Int) / 2 ^ r) 1 == 1)) = _
  rw [HAND.out]
  congr 2
  rw [Bool.eq_iff_iff]
  simp only [beq_iff_eq]
  omega

/-- What modulo leaves. -/
def ModPost (S L capS V : Nat) (w : World) (e : Ending) (w' : World) : Prop :=
  ∃ r : Nat → Nat, e = .returned (.slice (some ⟨S, 0, none⟩) (tn r L) capS) ∧ HoldsN S 0 L r w w' ∧ (∀ j, j < L → r j < 4294967296) ∧ vb 4294967296 r L = V
structure ModR (S V L m nq c : Nat) (r q d : Nat → Nat) (A D : Nat) (w wr : World) : Prop where
  out : HoldsN S 0 L r w wr
  inv : DivI 4294967296 (m + 1) nq c r q D A
theorem mod_next {S L m nq c : Nat} {r q d ns : Nat → Nat} {A D : Nat} {w wr w5 : World} (h : ModR S 0 L m nq (c + 1) r q d A D w wr) (hlt : vb 4294967296 (fun j => r (c + j)) (m + 2) < 4294967296 * D) (hc : c < nq) (hsz : nq + (m + 1) = L)
    (hnl : ∀ j, j < m + 2 → ns j < 4294967296) (hnv : vb 4294967296 ns (m + 2) = vb 4294967296 (fun j => r (c + j)) (m + 2) % D) (hnt : ns (m + 1) = 0) (hh : HoldsN S c (m + 2) ns wr w5) :
    Hid (∃ q r, ModR S 0 L m nq c r q d A D w w5) := by
  have hD0 : 0 < D := by
    rcases Nat.eq_zero_or_pos D with h | h
    · rw [h] at hlt; omega
    · exact h
  have hmod := Nat.mod_lt (vb 4294967296 (fun j => r (c + j)) (m + 2)) hD0
  have hp1 : vb 4294967296 (fun j => r (c + j)) (m + 2) / D < 4294967296 := Nat.div_lt_of_lt_mul (by rw [Nat.mul_comm]; exact hlt)
  have hll : vb 4294967296 ns (m + 1) < D := by
    have e : vb 4294967296 ns (m + 2) = vb 4294967296 ns (m + 1) + 4294967296 ^ (m + 1) * ns (m + 1) := rfl
    rw [hnt, Nat.mul_zero, hnv] at e
    omega
  refine Lib.hid ⟨_, spl r c (m + 2) ns, ⟨h.out.1.trans hh.1, fun j => ?_⟩, h.inv.step hc hp1 hnl (by rw [hnv]; exact Nat.mod_add_div' _ _) hll hnt⟩
  rw [hh.2, Nat.zero_add, Nat.sub_zero]
  by_cases h1 : c ≤ j ∧ j < c + (m + 2)
  · rw [if_pos h1, if_pos (by omega)]; unfold spl; rw [if_pos h1]
  · rw [if_neg h1, h.out.2 j, Nat.zero_add, Nat.sub_zero]
    by_cases h2 : 0 ≤ j ∧ j < L
    · rw [if_pos h2, if_pos h2]; unfold spl; rw [if_neg h1]
    · rw [if_neg h2, if_neg h2]
set_option maxRecDepth 100000 in
set_option maxHeartbeats 1000000 in
theorem modulo_any (S L capS : Nat) (f : Nat → Nat) (b : Option Addr) (m cb : Nat) (g : Nat → Nat) (hL0 : 0 < L) (hL : (L : Int) ≤ 10000) (hm : (m : Int) ≤ 10000) (hc : L ≤ capS) (hf : ∀ j, j < L → f j < 4294967296) (htop : f (L - 1) = 0) (hg : ∀ j, j < m + 1 → g j < 4294967296) (hgm : 2147483648 ≤ g m) (hO : Off S b) (w : World) (hW : Wr w S 0 L f) (hB : RdA w b (m + 1) g) :
    Calls Try.prog 60 #[.slice (some ⟨S, 0, none⟩) L capS, .slice b ((m + 1 : Nat)) cb] w (ModPost S L capS (vb 4294967296 f L % vb 4294967296 g (m + 1)) w) := by
  have hbig : 4294967296 ^ m ≤ vb 4294967296 g (m + 1) := by
    have h3 : 4294967296 ^ m * 1 ≤ 4294967296 ^ m * g m := Nat.mul_le_mul_left _ (by omega)
    simp only [vb]
    omega
  have hsmall : vb 4294967296 f L < 4294967296 ^ (L - 1) := by
    obtain ⟨k, rfl⟩ : ∃ k, L = k + 1 := ⟨L - 1, by omega⟩
    rw [Nat.add_sub_cancel] at htop ⊢
    simp only [vb]
    rw [htop]
    have := vb_lt (P := 4294967296) (f := f) (n := k) (fun j hj => hf j (by omega))
    omega
  have hL0' : (0 : Int) < L := by omega
  have hm0 : (0 : Int) ≤ m := by omega
  have HF := Lib.hid hf; clear hf
  have HG := Lib.hid hg; clear hg
  have HGM := Lib.hid hgm; clear hgm
  have HO := Lib.hid hO; clear hO
  have HW := Lib.hid hW; clear hW
  have HB := Lib.hid hB; clear hB
  have HBIG := Lib.hid hbig; clear hbig
  have HSM := Lib.hid hsmall; clear hsmall
  clear htop
  obtain ⟨nq, hnq⟩ : ∃ nq : Nat, nq = L - (m + 1) := ⟨_, rfl⟩
  have fin : ∀ (wr : World) (r : Nat → Nat), HoldsN S 0 L r w wr → (∀ j, j < L → r j < 4294967296) → Calls Try.prog 41 #[.slice (some ⟨S, 0, none⟩) L capS] wr fun e w' => e = .returned (.slice (some ⟨S, 0, none⟩) (tn r L) capS) ∧ wr = w' := fun wr r h _ => trim_any _ L capS r (by omega) hc wr (h.wr HW.out).rd
  have FIN := Lib.hid fin; clear fin
  by_cases hLm : L ≤ m + 1
  · obtain ⟨z, hz⟩ : ∃ z : Int, (L : Int) - ((m : Int) + 1) - 1 = z := ⟨_, rfl⟩
    have hz1 : z < 0 := by omega
    have hzf : decide (0 ≤ z) = false := by rw [decide_eq_false_iff_not]; omega
    have hmod : vb 4294967296 f L % vb 4294967296 g (m + 1) = vb 4294967296 f L := Nat.mod_eq_of_lt (Nat.lt_of_lt_of_le HSM.out (Nat.le_trans (Nat.pow_le_pow_right (by omega) (by omega)) HBIG.out))
    have HM := Lib.hid hmod; clear hmod
    clear hnq hLm
    go_enter Try.func60, Try.ntmps60
    go_wp2
    refine wp_loop_rounds 1 ?_
    rw [rounds_succ]
    go_wp2_with fail
    refine (FIN.out w f HW.out.holds HF.out).mono ?_
    rintro e w' ⟨rfl, rfl⟩
    go_wp2
    go_ret
    exact ⟨f, rfl, HW.out.holds, HF.out, by rw [HM.out]⟩
  · have hsz : nq + (m + 1) = L := by omega
    have HSZ := Lib.hid hsz; clear hsz hLm
    have hstart : ModR S 0 L m nq nq f (fun _ => 0) g (vb 4294967296 f L) (vb 4294967296 g (m + 1)) w w := by
      refine ⟨HW.out.holds, fun j hj => HF.out j (by rw [← HSZ.out]; exact hj), fun j h1 h2 => by omega, top_less (W := 4294967296 ^ m) ?_ HBIG.out, fun _ _ => rfl, fun _ _ => (by show 0 < 4294967296; omega), by rw [HSZ.out, vb_zero (fun _ _ => rfl)]; omega⟩
      rw [HSZ.out, ← Nat.pow_add, show m + nq = L - 1 by have := HSZ.out; omega]
      exact HSM.out
    have HST := Lib.hid hstart; clear hstart
    have hnq' : (L : Int) - ((m : Int) + 1) - 1 = (nq : Int) - 1 := by have := HSZ.out; omega
    clear hnq
    go_enter Try.func60, Try.ntmps60
    go_wp2
    go_loopw [5] (fun iv wr => ∃ (z : Int) (c : Nat), c ≤ nq ∧ z = (c : Int) - 1 ∧ iv = .int .i64 z ∧ Hid (∃ q r, ModR S 0 L m nq c r q g (vb 4294967296 f L) (vb 4294967296 g (m + 1)) w wr)) (fun iv _ => (intOf iv + 1).toNat)
    case atStart => exact ⟨(nq : Int) - 1, nq, Nat.le_refl _, rfl, rfl, Lib.hid ⟨_, _, HST.out⟩⟩
    case round =>
      obtain ⟨z, c, hcc, hz, rfl, H⟩ := hrel
      cases c with
      | zero =>
        have hz1 : z < 0 := by omega
        have hzf : decide (0 ≤ z) = false := by rw [decide_eq_false_iff_not]; omega
        have HZ := Lib.hid hz; clear hz
        obtain ⟨q, r2, HO2⟩ := H.out
        have hd := HO2.inv.done
        rw [HSZ.out] at hd
        have hp := HO2.inv.parts
        rw [HSZ.out] at hp
        have HH := Lib.hid (And.intro HO2.out (And.intro hp hd.2)); clear HO2 hd hp H
        go_wp2_with fail
        refine (FIN.out wr r2 HH.out.1 HH.out.2.1).mono ?_
        rintro e w' ⟨rfl, rfl⟩
        go_wp2
        go_ret
        exact ⟨r2, rfl, HH.out.1, HH.out.2.1, HH.out.2.2⟩
      | succ i =>
        obtain rfl : z = (i : Int) := by omega
        have hi0 : (0 : Int) ≤ i := by omega
        have hin : (i : Int) < nq := by omega
        obtain ⟨q, r2, HO2⟩ := H.out
        obtain ⟨t, ht⟩ : ∃ t : Nat, (i : Int) + ((m : Int) + 1) + 1 = (t : Int) := ⟨i + (m + 1) + 1, by omega⟩
        have htN : t = i + (m + 2) := by omega
        have hsl' := slice_mid S 0 L capS i t (by omega) (by have := HSZ.out; omega) (by have := HSZ.out; omega)
        obtain ⟨c2, hc2⟩ : ∃ c2, capS - i = c2 := ⟨_, rfl⟩
        rw [hc2, show t - i = m + 2 by omega, Nat.zero_add] at hsl'
        have hsl := hsl'
        clear hsl'
        have hlt := HO2.inv.fits (by omega)
        have hwr := HO2.out.wr HW.out
        have hstep := step_any S (0 + i) c2 b m cb (fun j => r2 (i + j)) g (by omega) (by have := HSZ.out; omega) (fun j hj => HO2.inv.parts (i + j) (by omega)) HG.out HGM.out hlt HO.out wr (by have := hwr.sub i (m + 2) (by have := HSZ.out; omega); exact this) (HB.out.but HO.out HO2.out.1)
        rw [Nat.zero_add] at hstep
        have HSTEP := Lib.hid hstep; clear hstep
        have HLT := Lib.hid hlt; clear hlt hc2 htN hwr hz
        have HO2 := Lib.hid HO2
        go_wp2_with fail
        refine HSTEP.out.mono ?_
        rintro e w5 ⟨ns, rfl, hnl, hnv, hnt, hh⟩
        have HN := Lib.hid (mod_next HO2.out HLT.out (show i < nq by omega) HSZ.out hnl hnv hnt hh)
        clear hnl hnv hnt hh
        go_wp2
        go_roundw
        case rel => exact ⟨(i : Int) - 1, i, by omega, rfl, rfl, HN⟩
        case measure => first | (simp [intOf]; done) | (simp [intOf]; omega)
end Go.Proofs.Ytgegkffigjogcaa

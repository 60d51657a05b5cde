/- What the reference's ModExp comes to, of numbers that are few. -/
import Derived.Test.YtgegkffigjogcaaNRLen
import Derived.Test.YtgegkffigjogcaaNLaw
namespace Go.Proofs.Ytgegkffigjogcaa
open Go.RowKit

theorem one_an (w : World) (x : Nat) (t : TypeId) (hx : x < 4294967296) : AN x (.slice (some ⟨w.heap.size, 0, none⟩) 1 1) (w.alloc (.cells #[.int .u32 (x : Nat)] t)) :=
  ⟨1, fun _ => x, ⟨_, 1, rfl, Nat.le_refl _, (fun h => by cases h), .inr ⟨w.heap.size, 0, rfl, by simp, fun j hj => by
    obtain rfl : j = 0 := by omega
    rw [cell_of_row _ _ _ _ _ _ (heap_alloc_new _ _)]; rfl⟩⟩, by omega, fun j _ => hx, by simp [vb]⟩
theorem exp_step0 {E k : Nat} (h : E / 2 ^ k % 2 = 0) : E % 2 ^ (k + 1) = E % 2 ^ k := by
  rw [Nat.pow_succ, Nat.mod_mul, h, Nat.mul_zero, Nat.add_zero]
theorem exp_step1 {A E M k : Nat} (h : E / 2 ^ k % 2 = 1) : (A ^ (E % 2 ^ k) % M) * (A ^ 2 ^ k % M) % M = A ^ (E % 2 ^ (k + 1)) % M := by
  rw [← Nat.mul_mod, ← Nat.pow_add]
  congr 2
  rw [Nat.pow_succ, Nat.mod_mul, h, Nat.mul_one]
theorem exp_sq {A M k : Nat} : (A ^ 2 ^ k % M) * (A ^ 2 ^ k % M) % M = A ^ 2 ^ (k + 1) % M := by
  rw [← Nat.mul_mod, ← Nat.pow_add]
  congr 2
  rw [Nat.pow_succ, Nat.mul_two]
theorem exp_done {A E M : Nat} : A ^ (E % 2 ^ blN E) % M = A ^ E % M := by
  congr 2
  apply Nat.mod_eq_of_lt
  by_cases e : E = 0
  · rw [e]; exact Nat.pow_pos (by omega)
  · unfold blN
    rw [if_neg e]
    exact (Nat.log2_lt e).1 (Nat.lt_succ_self _)
set_option maxRecDepth 100000 in
set_option maxHeartbeats 4000000 in
theorem rexp_zero {A E K : Nat} {u v x : Value} {w : World} (hK : K ≤ 100) (kA : A < 4294967296 ^ K) (kE : E < 4294967296 ^ K) (hA : AN A u w) (hE : AN E v w) (hM : AN 0 x w) :
    Calls Try.prog 32 #[u, v, x] w (AnsR 1 0 w) := by
  have ec := cd2_fit (k := K) (j := K) (by omega) (by omega) kA kE
  have HB := Lib.hid (both_an hA hE)
  have HC := Lib.hid (fun w' (h : AN 0 x w') => check_an h)
  rw [ec] at HB
  rw [small_cd (x := 0) (by omega)] at HC
  have UM := Lib.hid hM
  clear ec hA hE hM hK kA kE
  go_enter Try.func32, Try.ntmps32
  have HW : Hid (Below w.heap.size w w) := Lib.hid (Below.refl _ _)
  go_wp2_with fail
  refine (HB.out).mono ?_
  rintro e wn ⟨rfl, hb⟩
  replace UM := Lib.hid (UM.out.below hb)
  replace HW := Lib.hid (HW.out.trans (hb.mono HW.out.size))
  clear hb
  go_wp2_with fail
  refine (HC.out _ UM.out).mono ?_
  rintro e wn ⟨rfl, hb⟩
  replace UM := Lib.hid (UM.out.below hb)
  replace HW := Lib.hid (HW.out.trans (hb.mono HW.out.size))
  clear hb
  go_wp2_with fail
  refine (plain_an UM.out).mono ?_
  rintro e wn ⟨x1, rfl, hx, hb⟩
  replace UM := Lib.hid (UM.out.below hb)
  replace HW := Lib.hid (HW.out.trans (hb.mono HW.out.size))
  have P1 := Lib.hid (hx)
  clear hb
  clear hx
  obtain ⟨g, n, cap, f, rfl, hn, hv, ht⟩ := P1.out
  have hn0 : n = 0 := Nat.le_zero.1 ((plain_len (P := 4294967296) (m := 0) (by omega) hn.lt ht).1 (by rw [hv]; exact Nat.pow_pos (by omega)))
  clear P1 hv ht hn
  subst hn0
  go_wp2
  go_ret2
  exact ⟨_, rfl, fun h => absurd h (by decide), fun _ => rfl, HW.out⟩
set_option maxRecDepth 100000 in
set_option maxHeartbeats 8000000 in
theorem rexp_fit {A E M K : Nat} {u v x : Value} {w : World} (hK0 : 1 ≤ K) (hK : K ≤ 100) (kA : A < 4294967296 ^ K) (kE : E < 4294967296 ^ K) (kM : M < 4294967296 ^ K) (hM0 : 0 < M) (hA : AN A u w) (hE : AN E v w) (hM : AN M x w) :
    Calls Try.prog 32 #[u, v, x] w (AnsR 0 (A ^ E % M) w) := by
  have ec := cd2_fit (k := K) (j := K) (by omega) (by omega) kA kE
  have HB := Lib.hid (both_an hA hE)
  have HC := Lib.hid (fun w' (h : AN M x w') => check_an h)
  rw [ec] at HB
  rw [cd_fit (k := K) (by omega) kM] at HC
  have kK : 4294967296 ^ K ≤ 4294967296 ^ (2 * K) := Nat.pow_le_pow_right (by omega) (by omega)
  have k1 : 1 < 4294967296 ^ K := Nat.one_lt_pow (by omega) (by omega)
  have D1 := Lib.hid (fun y w' (hy : AN 1 y w') (h : AN M x w') => rdivide_an (K := K) (by omega) k1 kM hM0 hy h)
  have DA := Lib.hid (fun y w' (hy : AN A y w') (h : AN M x w') => rdivide_an (K := K) (by omega) kA kM hM0 hy h)
  have DG := Lib.hid (fun V y w' (hV : V < M) (hy : RP V y w') => digits_rp (k := K) (by omega) (Nat.lt_trans hV kM) hy)
  have PR := Lib.hid (fun V Y y z w' (hy : DD (2 * K) V y w') (hz : DD (2 * K) Y z w') => product_dd (by omega) (by omega) hy hz)
  have OF := Lib.hid (fun V y w' (hy : DD (2 * K + 2 * K) V y w') => of_dd (by omega) hy)
  have DP := Lib.hid (fun V Y y w' (hV : V < M) (hY : Y < M) (hy : AN (V * Y) y w') (h : AN M x w') => rdivide_an (K := 2 * K) (by omega) (by
      rw [Nat.two_mul, Nat.pow_add]
      exact Nat.lt_of_lt_of_le (Nat.mul_lt_mul'' hV hY) (Nat.mul_le_mul (Nat.le_of_lt kM) (Nat.le_of_lt kM))) (Nat.lt_of_lt_of_le kM kK) hM0 hy h)
  have ML := Lib.hid (fun V => Nat.mod_lt V hM0)
  have LE := Lib.hid (fun w' (h : AN E v w') => rlen_an h)
  have UA := Lib.hid hA
  have UE := Lib.hid hE
  have UM := Lib.hid hM
  obtain ⟨n, f, ⟨a, cap, rfl, hc, hn0, hr⟩, hn, hf, hv⟩ := hE
  have hLn : blN E ≤ 32 * n := blN_le (by rw [← pow_32, ← hv]; exact vb_lt hf)
  obtain ⟨L, hL⟩ : ∃ L, blN E = L := ⟨_, rfl⟩
  have ED := Lib.hid (exp_done (A := A) (E := E) (M := M))
  rw [hL] at LE hLn ED
  have HRV := Lib.hid (And.intro hr (And.intro hf hv))
  have HM0 := Lib.hid hM0
  clear ec hA hM hK0 hK kA kE kM kK k1 hc hn0 hr hf hv hL hM0
  go_enter Try.func32, Try.ntmps32
  have HW : Hid (Below w.heap.size w w) := Lib.hid (Below.refl _ _)
  go_wp2_with fail
  refine (HB.out).mono ?_
  rintro e wn ⟨rfl, hb⟩
  replace UA := Lib.hid (UA.out.below hb)
  replace UE := Lib.hid (UE.out.below hb)
  replace UM := Lib.hid (UM.out.below hb)
  replace HW := Lib.hid (HW.out.trans (hb.mono HW.out.size))
  clear hb
  go_wp2_with fail
  refine (HC.out _ UM.out).mono ?_
  rintro e wn ⟨rfl, hb⟩
  replace UA := Lib.hid (UA.out.below hb)
  replace UE := Lib.hid (UE.out.below hb)
  replace UM := Lib.hid (UM.out.below hb)
  replace HW := Lib.hid (HW.out.trans (hb.mono HW.out.size))
  clear hb
  go_wp2_with fail
  refine (plain_an UM.out).mono ?_
  rintro e wn ⟨x1, rfl, hx, hb⟩
  replace UA := Lib.hid (UA.out.below hb)
  replace UE := Lib.hid (UE.out.below hb)
  replace UM := Lib.hid (UM.out.below hb)
  replace HW := Lib.hid (HW.out.trans (hb.mono HW.out.size))
  have P1 := Lib.hid (hx)
  clear hb
  clear hx
  obtain ⟨g, nm, cm, fm, rfl, hnm, hvm, htm⟩ := P1.out
  have hnz : nm ≠ 0 := fun h => by
    have h1 : M = 0 := by rw [← hvm, h]; rfl
    have h2 := HM0.out
    omega
  have hn1 : ((nm : Int) == 0) = false := by simp [hnz]
  clear P1 hvm htm hnm hnz
  obtain ⟨w5, hw5⟩ : ∃ w5, wn.alloc (.cells #[.int .u32 1] 32) = w5 := ⟨_, rfl⟩
  have hb : Below wn.heap.size wn w5 := by rw [← hw5]; exact (Below.refl _ _).alloc (Nat.le_refl _) _
  have h1 : AN 1 (.slice (some ⟨wn.heap.size, 0, none⟩) 1 1) w5 := by rw [← hw5]; exact one_an wn 1 _ (by omega)
  replace UA := Lib.hid (UA.out.below hb)
  replace UE := Lib.hid (UE.out.below hb)
  replace UM := Lib.hid (UM.out.below hb)
  replace HW := Lib.hid (HW.out.trans (hb.mono HW.out.size))
  have ONE := Lib.hid h1
  clear hb h1
  go_wp2_with fail
  clear hw5
  refine (D1.out _ _ ONE.out UM.out).mono ?_
  rintro e wn ⟨x2, x3, rfl, -, hy, hb⟩
  replace UA := Lib.hid (UA.out.below hb)
  replace UE := Lib.hid (UE.out.below hb)
  replace UM := Lib.hid (UM.out.below hb)
  replace HW := Lib.hid (HW.out.trans (hb.mono HW.out.size))
  have P3 := Lib.hid (hy)
  clear hb
  clear hy ONE D1
  go_wp2_with fail
  refine (DA.out _ _ UA.out UM.out).mono ?_
  rintro e wn ⟨x4, x5, rfl, -, hy, hb⟩
  replace UE := Lib.hid (UE.out.below hb)
  replace UM := Lib.hid (UM.out.below hb)
  replace P3 := Lib.hid (P3.out.below hb)
  replace HW := Lib.hid (HW.out.trans (hb.mono HW.out.size))
  have P5 := Lib.hid (hy)
  clear hb UA
  clear hy DA HB HC
  have HI : Hid (RP (A ^ (E % 2 ^ 0) % M) x3 wn ∧ RP (A ^ 2 ^ 0 % M) x5 wn ∧ Below w.heap.size w wn) := Lib.hid ⟨by
    rw [Nat.pow_zero, Nat.mod_one, Nat.pow_zero]; exact P3.out, by rw [Nat.pow_zero, Nat.pow_one]; exact P5.out, HW.out⟩
  have UE0 := UE
  have UM0 := UM
  clear P3 P5 HW UE UM
  go_wp2_with fail
  go_loopw [11, 13, 14] (fun p q i wr => ∃ k : Nat, k ≤ L ∧ i = .int .i64 k ∧ Hid (RP (A ^ (E % 2 ^ k) % M) p wr ∧ RP (A ^ 2 ^ k % M) q wr ∧ Below w.heap.size w wr ∧ Below wn.heap.size wn wr)) (fun _ _ i _ => L - (intOf i).toNat)
  case atStart => exact ⟨0, Nat.zero_le _, rfl, Lib.hid ⟨HI.out.1, HI.out.2.1, HI.out.2.2, Below.refl _ _⟩⟩
  case round =>
    obtain ⟨k, hk, rfl, H⟩ := hrel
    have hk0 : (0 : Int) ≤ k := by omega
    have hkb : (k : Int) ≤ 1125899906842624 := by omega
    have UE := Lib.hid (UE0.out.below H.out.2.2.2)
    have UM := Lib.hid (UM0.out.below H.out.2.2.2)
    have PP := Lib.hid H.out.1
    have PQ := Lib.hid H.out.2.1
    have HW := Lib.hid H.out.2.2.1
    have HW2 := Lib.hid H.out.2.2.2
    clear H
    go_wp2_with fail
    refine (LE.out _ UE.out).mono ?_
    rintro e wn ⟨rfl, hb⟩
    have hb2 := hb
    replace UE := Lib.hid (UE.out.below hb)
    replace UM := Lib.hid (UM.out.below hb)
    replace PP := Lib.hid (PP.out.below hb)
    replace PQ := Lib.hid (PQ.out.below hb)
    replace HW := Lib.hid (HW.out.trans (hb.mono HW.out.size))
    clear hb
    replace HW2 := Lib.hid (HW2.out.trans (hb2.mono HW2.out.size))
    clear hb2
    by_cases hlt : k < L
    · have hlt' : (k : Int) < L := by omega
      obtain ⟨q, hq⟩ : ∃ q : Nat, (k : Int) / 32 = (q : Int) := ⟨k / 32, by omega⟩
      obtain ⟨r, hr⟩ : ∃ r : Nat, (k : Int) % 32 = (r : Int) := ⟨k % 32, by omega⟩
      have eq : k / 32 = q := by omega
      have er : k % 32 = r := by omega
      have hb := bit_at (n := n) (i := k) HRV.out.2.1 (by omega)
      rw [eq, er, HRV.out.2.2] at hb
      obtain ⟨p, hix, hpb, -, cp⟩ := HRV.out.1.at_ cap q (by omega)
      have ca : wn.cell? p = some (.int .u32 (f q : Nat)) := (HW.out.cell hpb).trans cp
      have hq0 : (0 : Int) ≤ q := by omega
      have hr0 : (0 : Int) ≤ r := by omega
      have hr1 : (r : Int) < 32 := by omega
      have hfl := HRV.out.2.1 q (by omega)
      have hand : bits .and .u32 (((f q : Nat) : Int) / 2 ^ r) 1 = ((f q / 2 ^ r % 2 : Nat) : Int) := by
        have e1 : ((f q : Nat) : Int) / 2 ^ r = ((f q / 2 ^ r : Nat) : Int) := by simp
        have h1 : f q / 2 ^ r < 4294967296 := Nat.lt_of_le_of_lt (Nat.div_le_self _ _) hfl
        have h2 := (bits_u32_nat (f q / 2 ^ r) 1 h1 (by omega)).1
        rw [e1]
        refine Eq.trans h2 ?_
        rw [Nat.and_one_is_mod]
      rw [hb] at hand
      have hwr : IntKind.u64.wrap (r : Int) = (r : Int) := by rw [IntKind.wrap_u64]; omega
      have X1 := Lib.hid (exp_sq (A := A) (M := M) (k := k))
      have L1 := Lib.hid (ML.out (A ^ (E % 2 ^ k)))
      have L2 := Lib.hid (ML.out (A ^ 2 ^ k))
      clear cp hpb eq er hfl
      by_cases hz : E / 2 ^ k % 2 = 0
      · rw [hz] at hand
        have htst : (bits .and .u32 (((f q : Nat) : Int) / 2 ^ r) 1 == 1) = false := by rw [hand]; rfl
        have X0 := Lib.hid (exp_step0 hz)
        have hb0 : True := trivial
        clear hz hb
        go_wp2_with fail
        refine (DG.out _ _ _ L2.out PQ.out).mono ?_
        rintro e wn ⟨y1, rfl, hx, hb⟩
        have hb2 := hb
        replace UE := Lib.hid (UE.out.below hb)
        replace UM := Lib.hid (UM.out.below hb)
        replace PP := Lib.hid (PP.out.below hb)
        replace PQ := Lib.hid (PQ.out.below hb)
        replace HW := Lib.hid (HW.out.trans (hb.mono HW.out.size))
        have E1 := Lib.hid (hx)
        clear hb
        replace HW2 := Lib.hid (HW2.out.trans (hb2.mono HW2.out.size))
        clear hb2
        clear hx
        go_wp2_with fail
        refine (DG.out _ _ _ L2.out PQ.out).mono ?_
        rintro e wn ⟨y2, rfl, hx, hb⟩
        have hb2 := hb
        replace UE := Lib.hid (UE.out.below hb)
        replace UM := Lib.hid (UM.out.below hb)
        replace PP := Lib.hid (PP.out.below hb)
        replace E1 := Lib.hid (E1.out.below hb)
        replace HW := Lib.hid (HW.out.trans (hb.mono HW.out.size))
        have E2 := Lib.hid (hx)
        clear hb PQ
        replace HW2 := Lib.hid (HW2.out.trans (hb2.mono HW2.out.size))
        clear hb2
        clear hx
        go_wp2_with fail
        refine (PR.out _ _ _ _ _ E1.out E2.out).mono ?_
        rintro e wn ⟨y3, rfl, hx, hb⟩
        have hb2 := hb
        replace UE := Lib.hid (UE.out.below hb)
        replace UM := Lib.hid (UM.out.below hb)
        replace PP := Lib.hid (PP.out.below hb)
        replace HW := Lib.hid (HW.out.trans (hb.mono HW.out.size))
        have E3 := Lib.hid (hx)
        clear hb E1 E2
        replace HW2 := Lib.hid (HW2.out.trans (hb2.mono HW2.out.size))
        clear hb2
        clear hx
        go_wp2_with fail
        refine (OF.out _ _ _ E3.out).mono ?_
        rintro e wn ⟨y4, rfl, hx, hb⟩
        have hb2 := hb
        replace UE := Lib.hid (UE.out.below hb)
        replace UM := Lib.hid (UM.out.below hb)
        replace PP := Lib.hid (PP.out.below hb)
        replace HW := Lib.hid (HW.out.trans (hb.mono HW.out.size))
        have E4 := Lib.hid (hx)
        clear hb E3
        replace HW2 := Lib.hid (HW2.out.trans (hb2.mono HW2.out.size))
        clear hb2
        clear hx
        go_wp2_with fail
        refine (DP.out _ _ _ _ L2.out L2.out E4.out.an UM.out).mono ?_
        rintro e wn ⟨y5, y6, rfl, -, hx, hb⟩
        rw [X1.out] at hx
        have hb2 := hb
        replace UE := Lib.hid (UE.out.below hb)
        replace PP := Lib.hid (PP.out.below hb)
        replace HW := Lib.hid (HW.out.trans (hb.mono HW.out.size))
        have E6 := Lib.hid (hx)
        clear hb E4 UM
        replace HW2 := Lib.hid (HW2.out.trans (hb2.mono HW2.out.size))
        clear hb2
        clear hx
        clear hix ca hand htst hwr hq hr hq0 hr0 hr1 hb0
        go_wp2
        go_roundw
        case rel => exact ⟨k + 1, by omega, by go_num, Lib.hid ⟨by rw [X0.out]; exact PP.out, E6.out, HW.out, HW2.out⟩⟩
        case measure => first | (simp [intOf]; done) | (simp [intOf]; omega)
      · have h1 : E / 2 ^ k % 2 = 1 := by omega
        rw [h1] at hand
        have htst : (bits .and .u32 (((f q : Nat) : Int) / 2 ^ r) 1 == 1) = true := by rw [hand]; rfl
        have X0 := Lib.hid (exp_step1 (A := A) (M := M) h1)
        have hb0 : True := trivial
        clear hz hb h1
        go_wp2_with fail
        refine (DG.out _ _ _ L1.out PP.out).mono ?_
        rintro e wn ⟨y1, rfl, hx, hb⟩
        have hb2 := hb
        replace UE := Lib.hid (UE.out.below hb)
        replace UM := Lib.hid (UM.out.below hb)
        replace PQ := Lib.hid (PQ.out.below hb)
        replace HW := Lib.hid (HW.out.trans (hb.mono HW.out.size))
        have E1 := Lib.hid (hx)
        clear hb PP
        replace HW2 := Lib.hid (HW2.out.trans (hb2.mono HW2.out.size))
        clear hb2
        clear hx
        go_wp2_with fail
        refine (DG.out _ _ _ L2.out PQ.out).mono ?_
        rintro e wn ⟨y2, rfl, hx, hb⟩
        have hb2 := hb
        replace UE := Lib.hid (UE.out.below hb)
        replace UM := Lib.hid (UM.out.below hb)
        replace PQ := Lib.hid (PQ.out.below hb)
        replace E1 := Lib.hid (E1.out.below hb)
        replace HW := Lib.hid (HW.out.trans (hb.mono HW.out.size))
        have E2 := Lib.hid (hx)
        clear hb
        replace HW2 := Lib.hid (HW2.out.trans (hb2.mono HW2.out.size))
        clear hb2
        clear hx
        go_wp2_with fail
        refine (PR.out _ _ _ _ _ E1.out E2.out).mono ?_
        rintro e wn ⟨y3, rfl, hx, hb⟩
        have hb2 := hb
        replace UE := Lib.hid (UE.out.below hb)
        replace UM := Lib.hid (UM.out.below hb)
        replace PQ := Lib.hid (PQ.out.below hb)
        replace HW := Lib.hid (HW.out.trans (hb.mono HW.out.size))
        have E3 := Lib.hid (hx)
        clear hb E1 E2
        replace HW2 := Lib.hid (HW2.out.trans (hb2.mono HW2.out.size))
        clear hb2
        clear hx
        go_wp2_with fail
        refine (OF.out _ _ _ E3.out).mono ?_
        rintro e wn ⟨y4, rfl, hx, hb⟩
        have hb2 := hb
        replace UE := Lib.hid (UE.out.below hb)
        replace UM := Lib.hid (UM.out.below hb)
        replace PQ := Lib.hid (PQ.out.below hb)
        replace HW := Lib.hid (HW.out.trans (hb.mono HW.out.size))
        have E4 := Lib.hid (hx)
        clear hb E3
        replace HW2 := Lib.hid (HW2.out.trans (hb2.mono HW2.out.size))
        clear hb2
        clear hx
        go_wp2_with fail
        refine (DP.out _ _ _ _ L1.out L2.out E4.out.an UM.out).mono ?_
        rintro e wn ⟨y5, y6, rfl, -, hx, hb⟩
        rw [X0.out] at hx
        have hb2 := hb
        replace UE := Lib.hid (UE.out.below hb)
        replace UM := Lib.hid (UM.out.below hb)
        replace PQ := Lib.hid (PQ.out.below hb)
        replace HW := Lib.hid (HW.out.trans (hb.mono HW.out.size))
        have PP := Lib.hid (hx)
        clear hb E4
        replace HW2 := Lib.hid (HW2.out.trans (hb2.mono HW2.out.size))
        clear hb2
        clear hx
        go_wp2_with fail
        refine (DG.out _ _ _ L2.out PQ.out).mono ?_
        rintro e wn ⟨y1, rfl, hx, hb⟩
        have hb2 := hb
        replace UE := Lib.hid (UE.out.below hb)
        replace UM := Lib.hid (UM.out.below hb)
        replace PP := Lib.hid (PP.out.below hb)
        replace PQ := Lib.hid (PQ.out.below hb)
        replace HW := Lib.hid (HW.out.trans (hb.mono HW.out.size))
        have E1 := Lib.hid (hx)
        clear hb
        replace HW2 := Lib.hid (HW2.out.trans (hb2.mono HW2.out.size))
        clear hb2
        clear hx
        go_wp2_with fail
        refine (DG.out _ _ _ L2.out PQ.out).mono ?_
        rintro e wn ⟨y2, rfl, hx, hb⟩
        have hb2 := hb
        replace UE := Lib.hid (UE.out.below hb)
        replace UM := Lib.hid (UM.out.below hb)
        replace PP := Lib.hid (PP.out.below hb)
        replace E1 := Lib.hid (E1.out.below hb)
        replace HW := Lib.hid (HW.out.trans (hb.mono HW.out.size))
        have E2 := Lib.hid (hx)
        clear hb PQ
        replace HW2 := Lib.hid (HW2.out.trans (hb2.mono HW2.out.size))
        clear hb2
        clear hx
        go_wp2_with fail
        refine (PR.out _ _ _ _ _ E1.out E2.out).mono ?_
        rintro e wn ⟨y3, rfl, hx, hb⟩
        have hb2 := hb
        replace UE := Lib.hid (UE.out.below hb)
        replace UM := Lib.hid (UM.out.below hb)
        replace PP := Lib.hid (PP.out.below hb)
        replace HW := Lib.hid (HW.out.trans (hb.mono HW.out.size))
        have E3 := Lib.hid (hx)
        clear hb E1 E2
        replace HW2 := Lib.hid (HW2.out.trans (hb2.mono HW2.out.size))
        clear hb2
        clear hx
        go_wp2_with fail
        refine (OF.out _ _ _ E3.out).mono ?_
        rintro e wn ⟨y4, rfl, hx, hb⟩
        have hb2 := hb
        replace UE := Lib.hid (UE.out.below hb)
        replace UM := Lib.hid (UM.out.below hb)
        replace PP := Lib.hid (PP.out.below hb)
        replace HW := Lib.hid (HW.out.trans (hb.mono HW.out.size))
        have E4 := Lib.hid (hx)
        clear hb E3
        replace HW2 := Lib.hid (HW2.out.trans (hb2.mono HW2.out.size))
        clear hb2
        clear hx
        go_wp2_with fail
        refine (DP.out _ _ _ _ L2.out L2.out E4.out.an UM.out).mono ?_
        rintro e wn ⟨y5, y6, rfl, -, hx, hb⟩
        rw [X1.out] at hx
        have hb2 := hb
        replace UE := Lib.hid (UE.out.below hb)
        replace PP := Lib.hid (PP.out.below hb)
        replace HW := Lib.hid (HW.out.trans (hb.mono HW.out.size))
        have E6 := Lib.hid (hx)
        clear hb E4 UM
        replace HW2 := Lib.hid (HW2.out.trans (hb2.mono HW2.out.size))
        clear hb2
        clear hx
        clear hix ca hand htst hwr hq hr hq0 hr0 hr1 hb0
        go_wp2
        go_roundw
        case rel => exact ⟨k + 1, by omega, by go_num, Lib.hid ⟨PP.out, E6.out, HW.out, HW2.out⟩⟩
        case measure => first | (simp [intOf]; done) | (simp [intOf]; omega)
    · obtain rfl : k = L := by omega
      have HF : Hid (RP (A ^ E % M) _ wn) := Lib.hid (by rw [← ED.out]; exact PP.out)
      clear PP PQ
      go_wp2
      go_ret2
      exact ⟨_, rfl, fun _ => HF.out, fun h => absurd rfl h, HW.out⟩
end Go.Proofs.Ytgegkffigjogcaa

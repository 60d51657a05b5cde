/- What nat.divide and nat.modulo come to. -/
import Derived.Test.YtgegkffigjogcaaNProd
import Derived.Test.YtgegkffigjogcaaNStep
import Derived.Deep.DeepCutAuto
namespace Go.Proofs.Ytgegkffigjogcaa
open Go.RowKit

/-- What divide leaves. -/
def DivPostN (n A D : Nat) (w : World) (e : Ending) (w' : World) : Prop :=
  ∃ (Q nq cq R cr : Nat) (q r : Nat → Nat), e = .returned (.tuple #[.slice (some ⟨Q, 0, none⟩) nq cq, .slice (some ⟨R, 0, none⟩) ((n + 1 : Nat)) cr]) ∧ nq ≤ n ∧ nq ≤ cq ∧ n + 1 ≤ cr ∧ w.heap.size ≤ Q ∧ w.heap.size ≤ R ∧ Q ≠ R ∧ Wr w' Q 0 nq q ∧ Wr w' R 0 (n + 1) r ∧
    (∀ j, j < nq → q j < 4294967296) ∧ (∀ j, j < n + 1 → r j < 4294967296) ∧ vb 4294967296 q nq = A / D ∧ vb 4294967296 r (n + 1) = A % D ∧ Below w.heap.size w w'
/-- A divisor that is raised has its highest bit, and no part more. -/
theorem norm_bits {x s : Nat} (hx : x < 4294967296) (h0 : x ≠ 0) (hs : s = 32 - Lib.bitLen x) : s < 32 ∧ 2147483648 ≤ 2 ^ s * x ∧ 2 ^ s * (x + 1) ≤ 4294967296 := by
  obtain ⟨h1, h2, h3⟩ := bitLen_bounds x (by omega) h0
  have h4 := bitLen32 x hx
  have e1 : 2 ^ s * 2 ^ Lib.bitLen x = 4294967296 := by rw [← Nat.pow_add, hs, show 32 - Lib.bitLen x + Lib.bitLen x = 32 by omega]
  have e2 : 2 ^ s * 2 ^ (Lib.bitLen x - 1) = 2147483648 := by rw [← Nat.pow_add, hs, show 32 - Lib.bitLen x + (Lib.bitLen x - 1) = 31 by omega]
  refine ⟨by omega, ?_, ?_⟩
  · rw [← e2]; exact Nat.mul_le_mul_left _ h2
  · rw [← e1]; exact Nat.mul_le_mul_left _ h3
theorem norm_top {B : Nat} (hB : 0 < B) {g o : Nat → Nat} {m s : Nat} (hg : ∀ j, j < m → g j < B) (h1 : B / 2 * 1 ≤ 2 ^ s * g m) (h2 : 2 ^ s * (g m + 1) ≤ B) (ho : ∀ j, j < m + 2 → o j < B) (h : vb B o (m + 2) = 2 ^ s * vb B g (m + 1)) :
    o (m + 1) = 0 ∧ vb B o (m + 1) = 2 ^ s * vb B g (m + 1) ∧ B / 2 ≤ o m := by
  have hl := vb_lt hg
  have hp : 0 < B ^ m := Nat.pow_pos hB
  have hlt : 2 ^ s * vb B g (m + 1) < B ^ (m + 1) := by
    simp only [vb, Nat.pow_succ]
    have e1 : vb B g m + B ^ m * g m < B ^ m * (g m + 1) := by rw [Nat.mul_add, Nat.mul_one]; omega
    have e2 := Nat.mul_lt_mul_of_pos_left e1 (Nat.pow_pos (n := s) (show 0 < 2 by omega))
    have e3 : 2 ^ s * (B ^ m * (g m + 1)) = B ^ m * (2 ^ s * (g m + 1)) := by simp only [Nat.mul_left_comm]
    have e4 := Nat.mul_le_mul_left (B ^ m) h2
    omega
  have hz : o (m + 1) = 0 := by
    rcases Nat.eq_zero_or_pos (o (m + 1)) with h0 | h0
    · exact h0
    · exfalso
      have e : vb B o (m + 2) = vb B o (m + 1) + B ^ (m + 1) * o (m + 1) := rfl
      have := Nat.mul_le_mul_left (B ^ (m + 1)) h0
      omega
  have hv : vb B o (m + 1) = 2 ^ s * vb B g (m + 1) := by
    have e : vb B o (m + 2) = vb B o (m + 1) + B ^ (m + 1) * o (m + 1) := rfl
    rw [hz, Nat.mul_zero] at e
    omega
  refine ⟨hz, hv, ?_⟩
  have hd := vb_digit (f := o) (n := m + 1) (fun j hj => ho j (by omega)) m (by omega)
  rw [hv, Nat.mod_eq_of_lt (Nat.div_lt_of_lt_mul (by rw [← Nat.pow_succ]; exact hlt))] at hd
  suffices hk : B / 2 ≤ 2 ^ s * vb B g (m + 1) / B ^ m by rw [hd]; exact hk
  rw [Nat.le_div_iff_mul_le hp]
  simp only [vb, Nat.mul_add]
  have e3 : 2 ^ s * (B ^ m * g m) = B ^ m * (2 ^ s * g m) := by simp only [Nat.mul_left_comm]
  have e4 := Nat.mul_le_mul_left (B ^ m) h1
  rw [Nat.mul_one, Nat.mul_comm (B ^ m) (B / 2)] at e4
  omega
/-- The highest parts of what is divided are less than the divisor. -/
theorem top_less {B : Nat} {f : Nat → Nat} {D W : Nat} {i n : Nat} (h : vb B f (i + n) < W * B ^ i) (hW : W ≤ D) : vb B (fun j => f (i + j)) n < D := by
  rw [vb_split] at h
  have h1 : B ^ i * vb B (fun j => f (i + j)) n < B ^ i * W := by rw [Nat.mul_comm (B ^ i) W]; omega
  have := Nat.lt_of_mul_lt_mul_left h1
  omega
/-- The worlds of a division: rest, divisor and quotient lie in three blocks. -/
structure DivW (Q R V n m nq c : Nat) (q r d : Nat → Nat) (A D : Nat) (w wr : World) : Prop where
  quo : Wr wr Q 0 nq q
  rest : Wr wr R 0 (nq + (m + 1)) r
  dv : Pt wr V 0 (m + 1) d
  old : Below w.heap.size w wr
  inv : DivI 4294967296 (m + 1) nq c r q D A
theorem DivW.next {Q R V n m nq c p : Nat} {q r d ns : Nat → Nat} {A D : Nat} {w wr w1 : World} (h : DivW Q R V n m nq (c + 1) q r d A D w wr) (hc : c < nq) (hQ : w.heap.size ≤ Q) (hR : w.heap.size ≤ R) (hQR : Q ≠ R) (hVR : V ≠ R) (hVQ : V ≠ Q) (hp : p < 4294967296)
    (hns : ∀ j, j < m + 2 → ns j < 4294967296) (hv : vb 4294967296 ns (m + 2) + p * D = vb 4294967296 (fun j => r (c + j)) (m + 2)) (hl : vb 4294967296 ns (m + 1) < D) (ht : ns (m + 1) = 0) (hh : HoldsN R (0 + c) (m + 2) ns wr w1) :
    DivW Q R V n m nq c (spl q c 1 (fun _ => p)) (spl r c (m + 2) ns) d A D w (w1.setCell ⟨Q, c, none⟩ (.int .u32 (p : Nat))) := by
  have hb : But Q w1 (w1.setCell ⟨Q, c, none⟩ (.int .u32 (p : Nat))) := (But.refl Q w1).set c _
  have hq := (h.quo.but hh.1 hQR).set c p hc
  rw [Nat.zero_add] at hq
  have e : upd q c p = spl q c 1 (fun _ => p) := funext fun j => by
    unfold upd spl
    by_cases e : j = c
    · rw [if_pos e, if_pos (by omega)]
    · rw [if_neg e, if_neg (by omega)]
  rw [e] at hq
  refine ⟨hq, (hh.splice h.rest (by omega)).but hb (fun e => hQR e.symm), ?_, (But.below h.old hh.1 hR).setCell hQ _, h.inv.step hc hp hns hv hl ht⟩
  have h1 : Pt w1 V 0 (m + 1) d := ⟨by rw [hh.1.size]; exact h.dv.1, fun j hj => (hh.1.cell (p := ⟨V, 0 + j, none⟩) hVR).trans (h.dv.2 j hj)⟩
  exact ⟨by rw [hb.size]; exact h1.1, fun j hj => (hb.cell (p := ⟨V, 0 + j, none⟩) hVQ).trans (h1.2 j hj)⟩

/-- A division that is done but for the rest's shift back. -/
structure DivEnd (Q R n nq s : Nat) (q r : Nat → Nat) (A D : Nat) (w wr : World) : Prop where
  quo : Wr wr Q 0 nq q
  rest : Wr wr R 0 (n + 1) r
  qlt : ∀ j, j < nq → q j < 4294967296
  rlt : ∀ j, j < n + 1 → r j < 4294967296
  qv : vb 4294967296 q nq = A / D
  rv : vb 4294967296 r (n + 1) = 2 ^ s * (A % D)
  old : Below w.heap.size w wr
theorem DivEnd.post {Q R n nq s : Nat} {q r cur : Nat → Nat} {A D : Nat} {w wr w5 : World} (h : DivEnd Q R n nq s q r A D w wr) (hh : HoldsN R 0 (n + 1) cur wr w5) (hl : ∀ j, j < n + 1 → cur j < 4294967296) (hv : vb 4294967296 cur (n + 1) = vb 4294967296 r (n + 1) / 2 ^ s)
    (hn : nq ≤ n) (hQ : w.heap.size ≤ Q) (hR : w.heap.size ≤ R) (hQR : Q ≠ R) : DivPostN n A D w (.returned (.tuple #[.slice (some ⟨Q, 0, none⟩) nq nq, .slice (some ⟨R, 0, none⟩) ((n + 1 : Nat)) ((n + 1 : Nat))])) w5 :=
  ⟨Q, nq, nq, R, n + 1, q, cur, rfl, hn, Nat.le_refl _, Nat.le_refl _, hQ, hR, hQR, h.quo.but hh.1 hQR, hh.wr h.rest, h.qlt, hl, h.qv, by rw [hv, h.rv, Nat.mul_div_cancel_left _ (Nat.pow_pos (by omega))], But.below h.old hh.1 hR⟩
theorem below_undrew {w w' : World} (h : Below w.drew.heap.size w.drew w') : Below w.heap.size w w' := ⟨h.os, h.tape, h.output, h.size, h.block⟩

set_option maxRecDepth 100000 in
set_option maxHeartbeats 2000000 in
theorem divide_any (a : Option Addr) (n ca : Nat) (b : Option Addr) (m cb : Nat) (f g : Nat → Nat) (hn : (n : Int) ≤ 10000000000) (hm : (m : Int) ≤ 10000000000) (hf : ∀ j, j < n → f j < 4294967296) (hg : ∀ j, j < m + 1 → g j < 4294967296) (hgt : g m ≠ 0) (w : World) (hA : RdA w a n f) (hB : RdA w b (m + 1) g) :
    Calls Try.prog 54 #[.slice a n ca, .slice b ((m + 1 : Nat)) cb] w (DivPostN n (vb 4294967296 f n) (vb 4294967296 g (m + 1)) w) := by
  obtain ⟨s, hs⟩ : ∃ s, 32 - Lib.bitLen (g m) = s := ⟨_, rfl⟩
  obtain ⟨s32, sn1, sn2⟩ := norm_bits (hg m (by omega)) hgt hs.symm
  have hh := headroom_any b m cb g (hg m (by omega)) (by omega) w hB
  rw [hs] at hh
  clear hs
  have hra := fun wx (hx : Below w.heap.size w wx) => raise_any a n ca s f (by omega) s32 hf wx (hA.below hx)
  have hrb := fun wx (hx : Below w.heap.size w wx) => raise_any b (m + 1) cb s g (by omega) s32 hg wx (hB.below hx)
  have HH := Lib.hid hh; clear hh
  have HRA := Lib.hid hra; clear hra
  have HRB := Lib.hid hrb; clear hrb
  have HA := Lib.hid hA; clear hA
  have HB := Lib.hid hB; clear hB
  have HF := Lib.hid hf; clear hf
  have HG := Lib.hid hg; clear hg
  have HGT := Lib.hid hgt; clear hgt
  have SN := Lib.hid (And.intro sn1 sn2); clear sn1 sn2
  have hn0 : (0 : Int) ≤ n := by omega
  have hm0 : (0 : Int) ≤ m := by omega
  go_enter Try.func54, Try.ntmps54
  go_wp2_with fail
  refine HH.out.mono ?_
  rintro e w' ⟨rfl, rfl⟩
  go_upto_region 2 with fail
  go_cut [7, 8] (fun s7 s8 wx => ∃ R r V d, s7 = .slice (some ⟨R, 0, none⟩) ((n + 1 : Nat)) ((n + 1 : Nat)) ∧ s8 = .slice (some ⟨V, 0, none⟩) ((m + 1 : Nat)) ((m + 2 : Nat)) ∧ Hid (w.heap.size ≤ R ∧ w.heap.size ≤ V ∧ V ≠ R ∧ Wr wx R 0 (n + 1) r ∧ Pt wx V 0 (m + 2) d ∧ (∀ j, j < n + 1 → r j < 4294967296) ∧ (∀ j, j < m + 2 → d j < 4294967296) ∧ vb 4294967296 r (n + 1) = 2 ^ s * vb 4294967296 f n ∧ vb 4294967296 d (m + 2) = 2 ^ s * vb 4294967296 g (m + 1) ∧ Below w.heap.size w wx))
  case first =>
    go_region_with (first | (go_at_call 58; (with_reducible refine Calls.mono (HRA.out _ ?hb) ?_); (case hb => first | exact (Below.refl _ _).drew | exact HLB.out); rintro e wA ⟨R, r, rfl, hR1, hR2, hR3, hR4, hR5⟩; have HLA : Hid (Below w.heap.size w wA) := (Lib.hid (by first | exact (below_undrew hR3) | exact HLB.out.trans (hR3.mono HLB.out.size))); have HXA := (Lib.hid (And.intro hR1 (And.intro hR2 (And.intro hR3 (And.intro hR4 hR5))))); clear hR1 hR2 hR3 hR4 hR5) | (go_at_call 58; (with_reducible refine Calls.mono (HRB.out _ ?hb) ?_); (case hb => first | exact (Below.refl _ _).drew | exact HLA.out); rintro e wB ⟨V, d, rfl, hV1, hV2, hV3, hV4, hV5⟩; have HLB : Hid (Below w.heap.size w wB) := (Lib.hid (by first | exact (below_undrew hV3) | exact HLA.out.trans (hV3.mono HLA.out.size))); have HXB := (Lib.hid (And.intro hV1 (And.intro hV2 (And.intro hV3 (And.intro hV4 hV5))))); have hsl := slice_nat (some ⟨V, 0, none⟩) (m + 1 + 1) (m + 1 + 1) (m + 1) (by omega); clear hV1 hV2 hV3 hV4 hV5))
    all_goals
      go_wp2_with fail
      go_meet
      first
        | exact ⟨R, r, V, d, rfl, rfl, Lib.hid ⟨HXA.out.1, Nat.le_trans HLA.out.size HXB.out.1, Nat.ne_of_gt (Nat.lt_of_lt_of_le HXA.out.2.1.1 HXB.out.1), HXA.out.2.1.below HXB.out.2.2.1, HXB.out.2.1.pt, HXA.out.2.2.2.1, HXB.out.2.2.2.1, HXA.out.2.2.2.2, HXB.out.2.2.2.2, HLB.out⟩⟩
        | exact ⟨R, r, V, d, rfl, rfl, Lib.hid ⟨Nat.le_trans HLB.out.size HXA.out.1, HXB.out.1, Nat.ne_of_lt (Nat.lt_of_lt_of_le HXB.out.2.1.1 HXA.out.1), HXA.out.2.1, (HXB.out.2.1.below HXA.out.2.2.1).pt, HXA.out.2.2.2.1, HXB.out.2.2.2.1, HXA.out.2.2.2.2, HXB.out.2.2.2.2, HLA.out⟩⟩
  case rest =>
    obtain ⟨R, r, V, d, rfl, rfl, HC⟩ := hcut
    obtain ⟨hR, hV, hVR, hWR, hPV, hrl, hdl, hrn, hdn, hbel⟩ := HC.out
    obtain ⟨hz, hdn2, hdm⟩ := norm_top (B := 4294967296) (by omega) (fun j hj => HG.out j (by omega)) (by have := SN.out.1; omega) SN.out.2 hdl hdn
    have HDM : Hid (2147483648 ≤ d m) := Lib.hid (by omega)
    obtain ⟨nq, hnq⟩ : ∃ nq : Nat, max 0 ((n : Int) + 1 - ((m : Int) + 1)) = (nq : Int) := ⟨n - m, by omega⟩
    have hnqn : nq = n - m := by omega
    obtain ⟨i0, hi, hz0, hz1, hz2⟩ := info_parts info32
    have HNQ := Lib.hid hnqn; clear hnqn
    have hnq0 : (nq : Int) ≤ 10000000000 := by have := HNQ.out; omega
    clear hR hV hVR hWR hPV hrl hdl hrn hdn hbel hz hdm
    have HDN := Lib.hid hdn2; clear hdn2
    go_wp2_with (at_make; refine wpList_make_full _ rfl _ _ 23 rfl wc.heap.size 32 i0 (.int .u32 0) 1 Try.underlying23 hi hz0 hz1 .i64 .i64 _ _ nq rfl rfl rfl rfl (by rw [hz2]; omega) (by unfold maxLen; omega) (Nat.le_refl _) ?_; intro w0 hown0 hgrow0)
    have hout : Wr w0 wc.heap.size 0 nq (fun _ => 0) := ⟨(hown0.lt _ rfl).2, fun j hj => ⟨by rw [Nat.zero_add]; exact (hown0.cellAt j (by omega)).trans (madeCells32_at nq j hj), by rw [Nat.zero_add]; exact hown0.frozenAt j⟩⟩
    have hbel : Below wc.heap.size wc w0 := (Below.refl _ _).grown hgrow0 (Nat.le_refl _) (fun k hk => by cases hk)
    have HW := Lib.hid (And.intro hout hbel)
    clear hout hbel hown0 hgrow0
    by_cases hnm : n < m
    · have hz : nq = 0 := by have := HNQ.out; omega
      have hzi : (nq : Int) - 1 = -1 := by omega
      have hsum : vb 4294967296 f n < vb 4294967296 g (m + 1) := by
        have h1 := vb_lt HF.out
        have h2 : 4294967296 ^ n ≤ 4294967296 ^ m := Nat.pow_le_pow_right (by omega) (by omega)
        have h3 : 4294967296 ^ m * 1 ≤ 4294967296 ^ m * g m := Nat.mul_le_mul_left _ (by have := HGT.out; omega)
        simp only [vb]
        omega
      have HS := Lib.hid hsum
      have HZ := Lib.hid hz
      clear hsum hz
      have HE : Hid (DivEnd wc.heap.size R n nq s (fun _ => 0) r (vb 4294967296 f n) (vb 4294967296 g (m + 1)) w w0) := Lib.hid ⟨HW.out.1, HC.out.2.2.2.1.below HW.out.2, fun _ _ => (by show 0 < 4294967296; omega), HC.out.2.2.2.2.2.1, by rw [vb_zero (fun _ _ => rfl), Nat.div_eq_of_lt HS.out], by rw [Nat.mod_eq_of_lt HS.out]; exact HC.out.2.2.2.2.2.2.2.1, HC.out.2.2.2.2.2.2.2.2.2.trans (HW.out.2.mono HC.out.2.2.2.2.2.2.2.2.2.size)⟩
      go_wp2_with fail
      refine wp_loop_rounds 1 ?_
      rw [rounds_succ]
      go_wp2_with fail
      refine (lower_any R 0 (n + 1) (n + 1) s r (by omega) s32 HE.out.rlt w0 HE.out.rest).mono ?_
      rintro e w5 ⟨rfl, cur, hh, hl, hv⟩
      have HP := Lib.hid (HE.out.post hh hl hv (by have := HNQ.out; omega) HC.out.2.2.2.2.2.2.2.2.2.size HC.out.1 (Nat.ne_of_gt HC.out.2.2.2.1.1)); clear hh hl hv
      go_wp2
      go_ret2
      exact HP.out
    · have hsz : nq + (m + 1) = n + 1 := by have := HNQ.out; omega
      have HSZ := Lib.hid hsz; clear hsz
      have hstart : DivW wc.heap.size R V n m nq nq (fun _ => 0) r d (2 ^ s * vb 4294967296 f n) (2 ^ s * vb 4294967296 g (m + 1)) w w0 := by
        obtain ⟨hR, hV, hVR, hWR, hPV, hrl, hdl, hrn, hdn, hbel⟩ := HC.out
        refine ⟨HW.out.1, by rw [HSZ.out]; exact hWR.below HW.out.2, ⟨(hPV.below HW.out.2).1, fun j hj => (hPV.below HW.out.2).2 j (by omega)⟩, hbel.trans (HW.out.2.mono hbel.size), fun j hj => hrl j (by omega), fun j h1 h2 => by omega, ?_, fun _ _ => rfl, fun _ _ => (by show 0 < 4294967296; omega), by rw [HSZ.out, hrn, vb_zero (fun _ _ => rfl)]; omega⟩
        refine top_less (W := 2 ^ s * 4294967296 ^ m) ?_ ?_
        · rw [HSZ.out, hrn, Nat.mul_assoc, ← Nat.pow_add, show m + nq = n by have := HNQ.out; omega]
          exact Nat.mul_lt_mul_of_pos_left (vb_lt HF.out) (Nat.pow_pos (by omega))
        · refine Nat.mul_le_mul_left _ ?_
          have h3 : 4294967296 ^ m * 1 ≤ 4294967296 ^ m * g m := Nat.mul_le_mul_left _ (by have := HGT.out; omega)
          simp only [vb]
          omega
      have HST := Lib.hid hstart; clear hstart hnm
      go_wp2_with fail
      go_loopw [10] (fun iv wr => ∃ (z : Int) (c : Nat), c ≤ nq ∧ z = (c : Int) - 1 ∧ iv = .int .i64 z ∧ Hid (∃ q r, DivW wc.heap.size R V n m nq c q r d (2 ^ s * vb 4294967296 f n) (2 ^ s * vb 4294967296 g (m + 1)) w wr)) (fun iv _ => (intOf iv + 1).toNat)
      case atStart => exact ⟨(nq : Int) - 1, nq, Nat.le_refl _, rfl, rfl, Lib.hid ⟨_, _, HST.out⟩⟩
      case round =>
        obtain ⟨z, c, hc, hz, rfl, H⟩ := hrel
        cases c with
        | zero =>
          have hz1 : z < 0 := by omega
          have hzf : decide (0 ≤ z) = false := by rw [decide_eq_false_iff_not]; omega
          have HZ := Lib.hid hz; clear hz
          obtain ⟨q, r2, HO⟩ := H.out
          have hd := HO.inv.done
          have HE : Hid (DivEnd wc.heap.size R n nq s q r2 (vb 4294967296 f n) (vb 4294967296 g (m + 1)) w wr) := Lib.hid ⟨HO.quo, by have := HO.rest; rwa [HSZ.out] at this, HO.inv.qs, fun j hj => HO.inv.parts j (by have := HSZ.out; omega), by rw [hd.1, Nat.mul_div_mul_left _ _ (Nat.pow_pos (by omega))], by have := hd.2; rw [HSZ.out, Nat.mul_mod_mul_left] at this; exact this, HO.old⟩
          clear hd
          have HO := Lib.hid HO
          go_wp2_with fail
          refine (lower_any R 0 (n + 1) (n + 1) s r2 (by omega) s32 HE.out.rlt wr HE.out.rest).mono ?_
          rintro e w5 ⟨rfl, cur, hh, hl, hv⟩
          have HP := Lib.hid (HE.out.post hh hl hv (by have := HNQ.out; omega) HC.out.2.2.2.2.2.2.2.2.2.size HC.out.1 (Nat.ne_of_gt HC.out.2.2.2.1.1)); clear hh hl hv
          go_wp2
          go_ret2
          exact HP.out
        | succ i =>
          obtain rfl : z = (i : Int) := by omega
          have hi0 : (0 : Int) ≤ i := by omega
          have hin : (i : Int) < nq := by omega
          obtain ⟨q, r2, HO⟩ := H.out
          obtain ⟨t, ht⟩ : ∃ t : Nat, (i : Int) + ((m : Int) + 1) + 1 = (t : Int) := ⟨i + (m + 1) + 1, by omega⟩
          have htN : t = i + (m + 2) := by omega
          have hsl' := slice_mid R 0 (n + 1) (n + 1) i t (by omega) (by have := HSZ.out; omega) (by have := HSZ.out; omega)
          obtain ⟨c2, hc2⟩ : ∃ c2, n + 1 - i = c2 := ⟨_, rfl⟩
          rw [hc2, show t - i = m + 2 by omega, Nat.zero_add] at hsl'
          have hsl := hsl'
          clear hsl'
          have hlt := HO.inv.fits (by omega)
          rw [← HDN.out] at hlt
          have hstep := step_any R (0 + i) c2 (some ⟨V, 0, none⟩) m (m + 2) (fun j => r2 (i + j)) d (by omega) (by have := HSZ.out; omega) (fun j hj => HO.inv.parts (i + j) (by omega)) (fun j hj => HC.out.2.2.2.2.2.2.1 j (by omega)) HDM.out hlt (fun q hq => by cases hq; exact HC.out.2.2.1) wr (by have := HO.rest.sub i (m + 2) (by omega); exact this) HO.dv.rd
          rw [Nat.zero_add] at hstep
          have HSTEP := Lib.hid hstep; clear hstep
          have HLT := Lib.hid hlt; clear hlt hc2 htN
          have hz4 : wc.heap.size ≠ R := Nat.ne_of_gt HC.out.2.2.2.1.1
          have hz5 : V ≠ wc.heap.size := Nat.ne_of_lt HC.out.2.2.2.2.1.1
          have HO := Lib.hid HO
          have HZ4 := Lib.hid hz4; clear hz4
          have HZ5 := Lib.hid hz5; clear hz5 hz
          go_wp2_with fail
          refine HSTEP.out.mono ?_
          rintro e w5 ⟨ns, rfl, hnl, hnv, hnt, hh⟩
          obtain ⟨p, hp⟩ : ∃ p, vb 4294967296 (fun j => r2 (i + j)) (m + 2) / vb 4294967296 d (m + 1) = p := ⟨_, rfl⟩
          have hq5 := (HO.out.quo.but hh.1 HZ4.out).2 i (by omega)
          rw [Nat.zero_add] at hq5
          obtain ⟨cq, fq⟩ := hq5
          have hp1 : p < 4294967296 := by rw [← hp]; exact Nat.div_lt_of_lt_mul (by rw [Nat.mul_comm]; exact HLT.out)
          have hD0 : 0 < vb 4294967296 d (m + 1) := by
            rcases Nat.eq_zero_or_pos (vb 4294967296 d (m + 1)) with h | h
            · have := HLT.out; rw [h] at this; omega
            · exact h
          have hmod := Nat.mod_lt (vb 4294967296 (fun j => r2 (i + j)) (m + 2)) hD0
          have hvv : vb 4294967296 ns (m + 2) + p * (2 ^ s * vb 4294967296 g (m + 1)) = vb 4294967296 (fun j => r2 (i + j)) (m + 2) := by
            rw [← HDN.out, hnv, ← hp]
            exact Nat.mod_add_div' _ _
          have hll : vb 4294967296 ns (m + 1) < 2 ^ s * vb 4294967296 g (m + 1) := by
            have e : vb 4294967296 ns (m + 2) = vb 4294967296 ns (m + 1) + 4294967296 ^ (m + 1) * ns (m + 1) := rfl
            rw [hnt, Nat.mul_zero, hnv] at e
            rw [← HDN.out]
            omega
          have HN := Lib.hid (HO.out.next (show i < nq by omega) HC.out.2.2.2.2.2.2.2.2.2.size HC.out.1 HZ4.out HC.out.2.2.1 HZ5.out hp1 hnl hvv hll hnt (by rw [Nat.zero_add]; exact hh))
          rw [hp]
          clear hp hp1 hD0 hmod hvv hll hnl hnv hnt hh
          go_wp2
          go_roundw
          case rel => exact ⟨(i : Int) - 1, i, by omega, rfl, rfl, Lib.hid ⟨_, _, HN.out⟩⟩
          case measure => first | (simp [intOf]; done) | (simp [intOf]; omega)
end Go.Proofs.Ytgegkffigjogcaa

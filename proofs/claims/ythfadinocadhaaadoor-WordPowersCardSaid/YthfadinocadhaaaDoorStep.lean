/- What word.divideStep comes to, called with a rest and a divisor that has its highest bit, in two blocks: the quotient's part, and the rest. -/
import Derived.Test.YthfadinocadhaaaDoorGuess
import Derived.Test.YthfadinocadhaaaDoorGive
import Derived.Test.YthfadinocadhaaaDoorStepNum
namespace Go.Proofs.YthfadinocadhaaaDoor
open Go.RowKit

theorem Holds.then_ {S o k : Nat} {n1 n2 : Nat → Nat} {w wr w' : World} (h : Holds S o k n1 w wr) (h' : Holds S o k n2 wr w') : Holds S o k n2 w w' := by
  refine ⟨h.1.trans h'.1, fun j => ?_⟩
  rw [h'.2 j]
  by_cases hj : o ≤ j ∧ j < o + k
  · rw [if_pos hj, if_pos hj]
  · rw [if_neg hj, if_neg hj, h.2 j, if_neg hj]
theorem But.drawn {S : Nat} {w w' : World} (h : But S w w') (n : Nat) : But S w (w'.drewN n) := ⟨h.os, h.tape, h.output, h.size, h.block, h.frozen⟩
theorem But.drawn' {S : Nat} {w w' : World} (n : Nat) (h : But S (w.drewN n) w') : But S w w' := ⟨h.os, h.tape, h.output, h.size, h.block, h.frozen⟩
theorem Holds.drawn' {S o k : Nat} {ns : Nat → Nat} {w w' : World} (n : Nat) (h : Holds S o k ns (w.drewN n) w') : Holds S o k ns w w' := ⟨h.1.drawn' n, h.2⟩

/-- What word.divideStep leaves. -/
def StepPost (S o n : Nat) (r d : Nat → Nat) (w : World) (e : Ending) (w' : World) : Prop :=
  ∃ ns : Nat → Nat, e = .returned (.int .u64 ((val r (n + 1) / val d n : Nat) : Int)) ∧ (∀ j, j < n + 1 → ns j < 18446744073709551616) ∧ val ns (n + 1) = val r (n + 1) % val d n ∧ Holds S o (n + 1) ns w w'

theorem exit_is {R D N P part debt : Nat} (hD : 0 < D) (h : N + part * D = R + P * debt) (hz : debt = 0) (hl : R / D ≤ part) : part = R / D ∧ N = R % D := by
  subst hz
  exact part_is hD (by rw [Nat.mul_zero, Nat.add_zero] at h; exact h) hl
theorem owed_is {R D N P part debt : Nat} (hD : 0 < D) (h : N + part * D = R + P * debt) (hz : debt = 1) (hN : N < P) : R / D < part := by
  subst hz
  exact part_over hD (by rw [Nat.mul_one] at h; exact h) hN

theorem steppost_mk {S o k q : Nat} {r d cur : Nat → Nat} {w w' : World} (hq : q = val r (k + 2) / val d (k + 1)) (h1 : ∀ j, j < k + 2 → cur j < 18446744073709551616) (h2 : val cur (k + 2) = val r (k + 2) % val d (k + 1)) (h3 : Holds S o (k + 2) cur w w') :
    StepPost S o (k + 1) r d w (.returned (.int .u64 (q : Int))) w' := ⟨cur, by rw [hq], h1, h2, h3⟩

set_option maxRecDepth 100000 in
set_option maxHeartbeats 1000000 in
theorem step_any (S o capS D capD k : Nat) (r d : Nat → Nat) (hn : (k : Int) ≤ 100) (hr : ∀ j, j < k + 2 → r j < 18446744073709551616) (hd : ∀ j, j < k + 1 → d j < 18446744073709551616)
    (hdk : 9223372036854775808 ≤ d k) (hlt : val r (k + 2) < 18446744073709551616 * val d (k + 1)) (hSD : D ≠ S) (w : World)
    (hs : ∀ j, j < k + 2 → w.cell? ⟨S, o + j, none⟩ = some (.int .u64 (r j))) (hf : ∀ j, j < k + 2 → w.frozen? ⟨S, o + j, none⟩ = false)
    (hc : ∀ j, j < k + 1 → w.cell? ⟨D, j, none⟩ = some (.int .u64 (d j))) :
    Calls Tryd.prog 97 #[.slice (some ⟨S, o, none⟩) ((k + 1 + 1 : Nat)) capS, .slice (some ⟨D, 0, none⟩) ((k + 1 : Nat)) capD] w (StepPost S o (k + 1) r d w) := by
  have c1 : w.cell? ⟨S, o + (k + 1), none⟩ = some (.int .u64 (r (k + 1))) := hs (k + 1) (by omega)
  have c2 : w.cell? ⟨S, o + k, none⟩ = some (.int .u64 (r k)) := hs k (by omega)
  have c3 : w.cell? ⟨D, k, none⟩ = some (.int .u64 (d k)) := hc k (by omega)
  have b0 : (0 : Int) ≤ k := by omega
  have hg := fun w => guess_any (r (k + 1)) (r k) (d k) (hr _ (by omega)) (hr _ (by omega)) (hd _ (by omega)) hdk w
  obtain ⟨g, eg⟩ : ∃ g, g = guessN (r (k + 1)) (r k) (d k) := ⟨_, rfl⟩
  rw [← eg] at hg
  have hgl : g < 18446744073709551616 := by
    rw [eg]; unfold guessN
    split
    · omega
    · rename_i hh
      rw [Nat.div_lt_iff_lt_mul (by omega)]
      have := hr k (by omega)
      generalize d k = y at *
      generalize r (k + 1) = h at *
      have h2 : (h + 1) * 18446744073709551616 ≤ y * 18446744073709551616 := Nat.mul_le_mul_right _ (by omega)
      omega
  have hge := guess_least (k := k) hr (by omega) hlt g (by rw [eg]; rfl)
  have hD0 : 0 < val d (k + 1) := by
    have := Nat.mul_pos (Nat.pow_pos (n := k) (show 0 < 18446744073709551616 by omega)) (show 0 < d k by omega)
    have := val_ge d k
    omega
  have HG := Lib.hid hg; clear hg
  have HR := Lib.hid hr; clear hr
  have HD := Lib.hid hd; clear hd
  have HS := Lib.hid hs; clear hs
  have HF := Lib.hid hf; clear hf
  have HC := Lib.hid hc; clear hc
  have HN := Lib.hid hSD; clear hSD
  have HGL := Lib.hid hgl; clear hgl
  have HGE := Lib.hid hge; clear hge
  have HD0 := Lib.hid hD0; clear hD0
  have HLT := Lib.hid hlt; clear hlt
  clear eg hdk
  go_enter Tryd.func97, Tryd.ntmps97
  go_wp2_with fail
  go_quiet ((go_at_call 107; exact Calls.quiet_of (HG.out _)))
  go_wp2_with fail
  refine (take_any S o capS D capD (k + 1) g r d (by omega) HR.out HD.out HGL.out HN.out (w.drewN nq) (fun j hj => HS.out j hj) (fun j hj => HF.out j hj) (fun j hj => HC.out j hj)).mono ?_
  rintro e w1 ⟨n1, debt, rfl, hd1, hb1, he1, ho1⟩
  have H1 := Lib.hid hb1; clear hb1
  have E1 := Lib.hid he1; clear he1
  have O1 := Lib.hid (ho1.drawn' _); clear ho1
  go_wp2_with fail
  go_loopw [6, 7] (fun p q wr => ∃ (part debt : Nat) (cur : Nat → Nat), p = .int .u64 part ∧ q = .int .u64 debt ∧ Hid (debt ≤ 1 ∧ part < 18446744073709551616 ∧ val r (k + 2) / val d (k + 1) ≤ part ∧ (∀ j, j < k + 2 → cur j < 18446744073709551616) ∧ val cur (k + 2) + part * val d (k + 1) = val r (k + 2) + 18446744073709551616 ^ (k + 2) * debt ∧ Holds S o (k + 2) cur w wr)) (fun p _ _ => (intOf p).toNat)
  case atStart => exact ⟨g, debt, n1, rfl, rfl, Lib.hid ⟨hd1, HGL.out, HGE.out, H1.out, E1.out, O1.out⟩⟩
  case round =>
    obtain ⟨part, debt, cur, rfl, rfl, H⟩ := hrel
    have d0 : (0 : Int) ≤ debt := by omega
    have d1 : (debt : Int) ≤ 1 := by have := H.out.1; omega
    have p0 : (0 : Int) ≤ part := by omega
    have p1 : (part : Int) ≤ 18446744073709551615 := by have := H.out.2.1; omega
    by_cases hz : debt = 0
    · as_aux_lemma =>
      have t0 : ((debt : Int) != 0) = false := by simp [hz]
      have hE := exit_is HD0.out H.out.2.2.2.2.1 hz H.out.2.2.1
      have HE := Lib.hid hE; clear hE hz
      go_wp2
      go_ret
      exact steppost_mk HE.out.1 H.out.2.2.2.1 HE.out.2 H.out.2.2.2.2.2
    · as_aux_lemma =>
      have t0 : ((debt : Int) != 0) = true := by simp [hz]
      have d2 : (1 : Int) ≤ debt := by omega
      have ho := owed_is HD0.out H.out.2.2.2.2.1 (show debt = 1 by omega) (val_lt H.out.2.2.2.1)
      have p3 : 0 < part := Nat.lt_of_le_of_lt (Nat.zero_le _) ho
      have p2 : (1 : Int) ≤ part := by omega
      clear p3
      have HO := Lib.hid ho; clear ho hz
      go_wp2_with fail
      refine (give_any S o capS D capD (k + 1) cur d (by omega) H.out.2.2.2.1 HD.out HN.out _ ?_ ?_ ?_).mono ?_
      · intro j hj
        rw [H.out.2.2.2.2.2.2 (o + j), if_pos (by omega), show o + j - o = j by omega]
      · intro j hj
        rw [H.out.2.2.2.2.2.1.frozen]
        exact HF.out j hj
      · intro j hj
        rw [H.out.2.2.2.2.2.1.cell (p := ⟨D, j, none⟩) HN.out]
        exact HC.out j hj
      · rintro e w2 ⟨n2, over, rfl, hd2, hb2, he2, ho2⟩
        have o0 : (0 : Int) ≤ over := by omega
        have o1 : (over : Int) ≤ 1 := by omega
        have o2 : (over : Int) ≤ debt := by omega
        have H2 := Lib.hid hb2; clear hb2
        have E2 := Lib.hid he2; clear he2
        have O2 := Lib.hid ho2; clear ho2
        go_wp2
        go_roundw
        case rel =>
          refine ⟨part - 1, debt - over, n2, congrArg (Value.int .u64) (by omega), congrArg (Value.int .u64) (by omega), Lib.hid ⟨by omega, by omega, by have := HO.out; omega, H2.out, ?_, H.out.2.2.2.2.2.then_ O2.out⟩⟩
          exact give_part H.out.2.2.2.2.1 E2.out (by omega) (by omega)
        case measure => simp [intOf]; omega
end Go.Proofs.YthfadinocadhaaaDoor

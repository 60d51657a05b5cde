/- What the reference's Len comes to. -/
import Derived.Test.YtgegkffigjogcaaNRef
namespace Go.Proofs.Ytgegkffigjogcaa
open Go.RowKit

theorem bl_is {V k : Nat} (h1 : 2 ^ k ≤ V) (h2 : V < 2 ^ (k + 1)) : blN V = k + 1 := by
  have h0 : V ≠ 0 := by have := Nat.pow_pos (n := k) (show 0 < 2 by omega); omega
  have h3 := blN_le h2
  have h4 : ¬ blN V ≤ k := fun h => by
    have h5 : V < 2 ^ blN V := by
      unfold blN
      rw [if_neg h0]
      exact (Nat.log2_lt h0).1 (Nat.lt_succ_self _)
    have h6 := Nat.pow_le_pow_right (n := 2) (by omega) h
    omega
  omega
theorem bit_off {V k : Nat} (h2 : V < 2 ^ (k + 1)) (h : V / 2 ^ k % 2 = 0) : V < 2 ^ k := by
  have hp := Nat.pow_pos (n := k) (show 0 < 2 by omega)
  have h3 : V / 2 ^ k < 2 := by rw [Nat.div_lt_iff_lt_mul hp, Nat.mul_comm, ← Nat.pow_succ]; exact h2
  have h4 : V / 2 ^ k = 0 := by
    generalize V / 2 ^ k = x at h h3
    clear hp h2
    omega
  rcases Nat.div_eq_zero_iff.1 h4 with h5 | h5
  · omega
  · exact h5
theorem bit_on {V k : Nat} (h : V / 2 ^ k % 2 = 1) : 2 ^ k ≤ V := by
  have hp := Nat.pow_pos (n := k) (show 0 < 2 by omega)
  exact Nat.le_of_not_lt (fun h5 => by rw [Nat.div_eq_of_lt h5] at h; omega)
set_option maxRecDepth 100000 in
set_option maxHeartbeats 1000000 in
-- WHAT THE REFERENCE's Len COMES TO.
theorem rlen_an {V : Nat} {v : Value} {w : World} (h : AN V v w) : Calls Try.prog 27 #[v] w fun e w' => e = .returned (.int .i64 ((blN V : Nat) : Int)) ∧ Below w.heap.size w w' := by
  have HP := Lib.hid (plain_an h)
  clear h
  go_enter Try.func27, Try.ntmps27
  go_wp2_with fail
  refine HP.out.mono ?_
  rintro e w1 ⟨u, rfl, ⟨g, n, cap, f, rfl, hn, hv, ht⟩, hb⟩
  have HB := Lib.hid hb
  have HN := Lib.hid hn
  have HV := Lib.hid hv
  have hnf := hn.few
  clear hv ht hn hb HP
  go_wp2
  go_loop [4] (fun iv => ∃ k : Nat, k ≤ 32 * n ∧ iv = .int .i64 k ∧ Hid (V < 2 ^ k)) (fun iv => (intOf iv).toNat)
  case atStart =>
    refine ⟨32 * n, Nat.le_refl _, by simp, Lib.hid ?_⟩
    rw [← HV.out, ← pow_32]
    exact vb_lt HN.out.lt
  case round =>
    obtain ⟨k, hk, rfl, H⟩ := hrel
    have hk00 : (0 : Int) ≤ k := by omega
    have hkb : (k : Int) ≤ 1125899906842624 := by omega
    rcases k with - | i
    · have h0 : V = 0 := by have := H.out; omega
      have HE : Hid (blN V = 0) := Lib.hid (by rw [h0]; rfl)
      clear h0
      clear H
      go_wp2
      go_ret
      exact ⟨by rw [HE.out]; rfl, HB.out⟩
    · obtain ⟨q, hq⟩ : ∃ q : Nat, (i : Int) / 32 = (q : Int) := ⟨i / 32, by omega⟩
      obtain ⟨r, hr⟩ : ∃ r : Nat, (i : Int) % 32 = (r : Int) := ⟨i % 32, by omega⟩
      have eq : i / 32 = q := by omega
      have er : i % 32 = r := by omega
      have hb := bit_at (n := n) (i := i) HN.out.lt (by omega)
      rw [eq, er, HV.out] at hb
      obtain ⟨p, hix, -, -, ca⟩ := HN.out.rd.at_ cap q (by omega)
      have hi0 : (0 : Int) ≤ i := by omega
      have hib : (i : Int) ≤ 1125899906842624 := by omega
      have hr0 : (0 : Int) ≤ r := by omega
      have hr1 : (r : Int) < 32 := by omega
      have hfl := HN.out.lt q (by omega)
      have hand : bits .and .u32 (((f q : Nat) : Int) / 2 ^ r) 1 = ((f q / 2 ^ r % 2 : Nat) : Int) := by
        have e1 : ((f q : Nat) : Int) / 2 ^ r = ((f q / 2 ^ r : Nat) : Int) := by simp
        have h1 : f q / 2 ^ r < 4294967296 := Nat.lt_of_le_of_lt (Nat.div_le_self _ _) hfl
        have h2 := (bits_u32_nat (f q / 2 ^ r) 1 h1 (by omega)).1
        rw [e1]
        refine Eq.trans h2 ?_
        rw [Nat.and_one_is_mod]
      rw [hb] at hand
      have hcast : ((i + 1 : Nat) : Int) = (i : Int) + 1 := by omega
      have hm1 : (i : Int) + 1 - 1 = (i : Int) := by omega
      have hs1 : (0 : Int) < (i : Int) + 1 := by omega
      have hwr : IntKind.u64.wrap (r : Int) = (r : Int) := by rw [IntKind.wrap_u64]; omega
      have HC := Lib.hid hcast
      by_cases hz : V / 2 ^ i % 2 = 0
      · rw [hz] at hand
        have htst : (bits .and .u32 (((f q : Nat) : Int) / 2 ^ r) 1 == 0) = true := by rw [hand]; rfl
        have HN2 := Lib.hid (bit_off H.out hz)
        clear H hz hb hand eq er hfl
        go_wp2
        go_round
        case rel => exact ⟨i, by omega, rfl, HN2⟩
        case measure => first | (simp [intOf]; done) | (simp [intOf]; omega)
      · have h1 : V / 2 ^ i % 2 = 1 := by omega
        rw [h1] at hand
        have htst : (bits .and .u32 (((f q : Nat) : Int) / 2 ^ r) 1 == 0) = false := by rw [hand]; rfl
        have HE := Lib.hid (bl_is (bit_on h1) H.out)
        clear H hz hb hand eq er hfl h1
        go_wp2
        go_ret
        exact ⟨by rw [HE.out]; rfl, HB.out⟩
end Go.Proofs.Ytgegkffigjogcaa

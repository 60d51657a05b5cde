/- What nat.headroom, nat.highest, nat.hasBit and nat.lower come to. -/
import Derived.Test.YtgegkffigjogcaaNRaise
import Derived.Test.YtgegkffigjogcaaNDiv64

namespace Go.Proofs.Ytgegkffigjogcaa
open Go.RowKit

theorem bitLen32 (x : Nat) (h : x < 4294967296) : Lib.bitLen x ≤ 32 := by
  by_cases h0 : x = 0
  · subst h0; decide
  · obtain ⟨h1, h2, -⟩ := bitLen_bounds x (by omega) h0
    rcases Nat.lt_or_ge 32 (Lib.bitLen x) with h3 | h3
    · have := Nat.pow_le_pow_right (show 0 < 2 by omega) (show 32 ≤ Lib.bitLen x - 1 by omega)
      omega
    · exact h3
theorem headroom_any (a : Option Addr) (k cap : Nat) (f : Nat → Nat) (hf : f k < 4294967296) (hn : (k : Int) ≤ 34000000000) (w : World) (hR : RdA w a (k + 1) f) :
    Calls Try.prog 59 #[.slice a ((k + 1 : Nat)) cap] w fun e w' => e = .returned (.int .i64 ((32 - Lib.bitLen (f k) : Nat) : Int)) ∧ w = w' := by
  obtain ⟨p, hix, -, -, ca⟩ := hR.at_ cap k (by omega)
  have hk0 : (0 : Int) ≤ k := by omega
  have hl := bitLen32 _ hf
  have hL : ∀ w, Calls Try.prog 73 #[.int .u32 (f k : Nat)] w fun e w' => e = .returned (.int .i64 ((32 - Lib.bitLen (f k) : Nat) : Int)) ∧ w = w' := fun w =>
    (Try.bits_LeadingZeros32 (f k : Nat) w (by omega) (by omega)).mono fun e w' ⟨he, hw⟩ => ⟨by rw [he, Int.toNat_natCast]; congr 2; omega, hw.symm⟩
  have HL := Lib.hid hL; clear hL hl hf
  clear hR
  go_enter Try.func59, Try.ntmps59
  go_wp2_with fail
  refine (HL.out _).mono ?_
  rintro e w' ⟨rfl, rfl⟩
  go_wp2
  go_ret
  exact ⟨rfl, rfl⟩

theorem high_wrap (x : Nat) (hx : x < 4294967296) : IntKind.u64.wrap (IntKind.u64.wrap (x : Int) * 4294967296) = ((x * 4294967296 : Nat) : Int) := by
  rw [IntKind.wrap_u64, IntKind.wrap_u64]; omega
theorem high_or (y x : Nat) (hy : y < 4294967296) (hx : x < 4294967296) : bits BinOp.or IntKind.u64 (IntKind.u64.wrap (IntKind.u64.wrap (y : Int) * 4294967296)) (IntKind.u64.wrap (x : Int)) = ((y * 4294967296 + x : Nat) : Int) := by
  rw [high_wrap y hy, show IntKind.u64.wrap (x : Int) = (x : Int) by rw [IntKind.wrap_u64]; omega, bits_or_u64_nat _ _ (by omega) (by omega), Nat.mul_comm]
  rw [show (4294967296 : Nat) = 2 ^ 32 by rfl, ← Nat.two_pow_add_eq_or_of_lt (by simpa using hx)]
theorem highest_one (a : Option Addr) (cap : Nat) (f : Nat → Nat) (hf : f 0 < 4294967296) (w : World) (hR : RdA w a 1 f) :
    Calls Try.prog 78 #[.slice a 1 cap] w fun e w' => e = .returned (.int .u64 ((f 0 * 4294967296 : Nat) : Int)) ∧ w = w' := by
  obtain ⟨p, hix', -, -, ca⟩ := hR.at_ cap 0 (by omega)
  have hix : ∀ w, (Instr.indexAt 23 (.slice a 1 cap) (.int .i64 0)).run Try.prog w = .ok (.pointer (some p)) w := hix'
  clear hix'
  have HF := Lib.hid hf; clear hf
  clear hR
  go_enter Try.func78, Try.ntmps78
  go_wp2
  go_ret
  refine ⟨?_, rfl⟩
  show Ending.returned (.int .u64 (IntKind.u64.wrap (IntKind.u64.wrap ((f 0 : Nat) : Int) * 4294967296))) = _
  rw [high_wrap _ HF.out]
theorem highest_two (a : Option Addr) (k cap : Nat) (f : Nat → Nat) (hf : ∀ j, j < k + 2 → f j < 4294967296) (hn : (k : Int) ≤ 34000000000) (w : World) (hR : RdA w a (k + 2) f) :
    Calls Try.prog 78 #[.slice a ((k + 2 : Nat)) cap] w fun e w' => e = .returned (.int .u64 ((f (k + 1) * 4294967296 + f k : Nat) : Int)) ∧ w = w' := by
  obtain ⟨p, hix, -, -, ca⟩ := hR.at_ cap k (by omega)
  obtain ⟨p1, hix1', -, -, ca1⟩ := hR.at_ cap (k + 1) (by omega)
  have hix1 : ∀ w, (Instr.indexAt 23 (.slice a (k + 2) cap) (.int .i64 ((k : Int) + 1))).run Try.prog w = .ok (.pointer (some p1)) w := hix1'
  clear hix1'
  have e1 : (k : Int) + 2 - 1 = (k : Int) + 1 := by omega
  have e2 : (k : Int) + 2 - 2 = (k : Int) := by omega
  have e3 : (1 : Int) < (k : Int) + 2 := by omega
  have HF := Lib.hid hf; clear hf
  have hk0 : (0 : Int) ≤ k := by omega
  clear hR
  go_enter Try.func78, Try.ntmps78
  go_wp2
  go_ret
  refine ⟨?_, rfl⟩
  show Ending.returned (.int .u64 (bits BinOp.or IntKind.u64 (IntKind.u64.wrap (IntKind.u64.wrap ((f (k + 1) : Nat) : Int) * 4294967296)) (IntKind.u64.wrap ((f k : Nat) : Int)))) = _
  rw [high_or _ _ (HF.out (k + 1) (by omega)) (HF.out k (by omega))]

theorem HoldsN.set {S o n : Nat} {cur : Nat → Nat} {w wr : World} (h : HoldsN S o n cur w wr) (i y : Nat) (hi : i < n) (hc : (wr.cell? ⟨S, o + i, none⟩).isSome = true) : HoldsN S o n (upd cur i y) w (wr.setCell ⟨S, o + i, none⟩ (.int .u32 (y : Nat))) := by
  refine ⟨h.1.set _ _, fun j => ?_⟩
  by_cases hj : j = o + i
  · subst hj
    obtain ⟨v, hv⟩ := Option.isSome_iff_exists.1 hc
    rw [if_pos (by omega), World.cell?_setCell_same _ _ _ hv]
    simp [upd]
  · rw [World.cell?_setCell_other _ _ _ _ (by intro e; apply hj; injection e with _ e2; exact e2.symm), h.2 j]
    by_cases h1 : o ≤ j ∧ j < o + n
    · rw [if_pos h1, if_pos h1]; unfold upd; rw [if_neg (by omega)]
    · rw [if_neg h1, if_neg h1]
theorem Wr.holds {w : World} {S o n : Nat} {f : Nat → Nat} (h : Wr w S o n f) : HoldsN S o n f w w := by
  refine ⟨But.refl _ _, fun j => ?_⟩
  by_cases h1 : o ≤ j ∧ j < o + n
  · rw [if_pos h1]
    have := (h.2 (j - o) (by omega)).1
    rwa [show o + (j - o) = j by omega] at this
  · rw [if_neg h1]
theorem lower_or (x s t T : Nat) (hx : x < 4294967296) (ht : s + t = 32) : bits .or .u32 ((x : Int) / 2 ^ s) ((T % 2 ^ s * 2 ^ t : Nat) : Int) = ((x / 2 ^ s + T % 2 ^ s * 2 ^ t : Nat) : Int) ∧ x / 2 ^ s + T % 2 ^ s * 2 ^ t < 4294967296 := by
  have hP : 2 ^ s * 2 ^ t = 4294967296 := by rw [← Nat.pow_add, ht]
  have h1 : x / 2 ^ s < 2 ^ t := by rw [Nat.div_lt_iff_lt_mul (Nat.pow_pos (by omega)), Nat.mul_comm, hP]; exact hx
  have h2 : T % 2 ^ s + 1 ≤ 2 ^ s := Nat.mod_lt _ (Nat.pow_pos (by omega))
  have h3 := Nat.mul_le_mul_right (2 ^ t) h2
  rw [hP, Nat.add_mul, Nat.one_mul] at h3
  have e1 : (x : Int) / 2 ^ s = ((x / 2 ^ s : Nat) : Int) := by simp
  have ht1 : 2 ^ t ≤ 4294967296 := by
    have h1 : 1 ≤ 2 ^ s := Nat.pow_pos (by omega)
    have := Nat.mul_le_mul_right (2 ^ t) h1
    omega
  have h0 := Nat.zero_le (x / 2 ^ s)
  have hq : x / 2 ^ s + T % 2 ^ s * 2 ^ t < 4294967296 := by generalize x / 2 ^ s = q at *; omega
  refine ⟨?_, hq⟩
  rw [e1, (bits_u32_nat _ _ (Nat.lt_of_le_of_lt (Nat.le_add_right _ _) hq) (Nat.lt_of_le_of_lt (Nat.le_add_left _ _) hq)).2.1, Nat.mul_comm, Nat.or_comm, ← Nat.two_pow_add_eq_or_of_lt h1, Nat.add_comm]
theorem lower_above (x s t : Nat) (ht : s + t = 32) (T : Nat) : (x : Int) * 2 ^ t % 4294967296 = (((x + 4294967296 * T) % 2 ^ s * 2 ^ t : Nat) : Int) := by
  have hP : 2 ^ s * 2 ^ t = 4294967296 := by rw [← Nat.pow_add, ht]
  have e : (x : Int) * 2 ^ t = ((x * 2 ^ t : Nat) : Int) := by simp
  rw [e, natmod2]
  congr 1
  rw [← hP, Nat.mul_mod_mul_right, Nat.mul_assoc, Nat.add_mul_mod_self_left]
theorem lower_num (x s t T : Nat) (ht : s + t = 32) : (x + 4294967296 * T) / 2 ^ s = x / 2 ^ s + T % 2 ^ s * 2 ^ t + 4294967296 * (T / 2 ^ s) := by
  have hP : 2 ^ s * 2 ^ t = 4294967296 := by rw [← Nat.pow_add, ht]
  have e : 4294967296 * T = 2 ^ s * (2 ^ t * (T % 2 ^ s) + 4294967296 * (T / 2 ^ s)) := by
    conv => lhs; rw [← Nat.mod_add_div T (2 ^ s)]
    rw [← hP]
    simp only [Nat.mul_add, Nat.mul_assoc, Nat.mul_left_comm]
  rw [e, Nat.add_mul_div_left _ _ (Nat.pow_pos (by omega)), Nat.mul_comm (2 ^ t), ← Nat.add_assoc]
/-- What lower keeps: the parts from c on have been shifted. -/
structure LowR (S o n c s t : Nat) (f cur : Nat → Nat) (ab : Nat) (w wr : World) : Prop where
  out : HoldsN S o n cur w wr
  lt : ∀ j, j < n → cur j < 4294967296
  todo : ∀ j, j < c → cur j = f j
  num : vb 4294967296 (fun j => cur (c + j)) (n - c) = vb 4294967296 (fun j => f (c + j)) (n - c) / 2 ^ s
  above : ab = vb 4294967296 (fun j => f (c + j)) (n - c) % 2 ^ s * 2 ^ t
theorem vb_tail (P : Nat) (f : Nat → Nat) (i n : Nat) (h : i < n) : vb P (fun j => f (i + j)) (n - i) = f i + P * vb P (fun j => f (i + 1 + j)) (n - (i + 1)) := by
  rw [show n - i = (n - (i + 1)) + 1 by omega, vb_low]
  congr 2
  exact vb_congr (fun j _ => by rw [show i + (j + 1) = i + 1 + j by omega])
theorem LowR.next {S o n i s t : Nat} {f cur : Nat → Nat} {ab : Nat} {w wr : World} (h : LowR S o n (i + 1) s t f cur ab w wr) (hW : Wr w S o n f) (hi : i < n) (ht : s + t = 32) (hf : f i < 4294967296) :
    LowR S o n i s t f (upd cur i (f i / 2 ^ s + ab)) ((f i + 4294967296 * vb 4294967296 (fun j => f (i + 1 + j)) (n - (i + 1))) % 2 ^ s * 2 ^ t) w (wr.setCell ⟨S, o + i, none⟩ (.int .u32 ((f i / 2 ^ s + ab : Nat) : Int))) := by
  have hl := (lower_or (f i) s t (vb 4294967296 (fun j => f (i + 1 + j)) (n - (i + 1))) hf ht).2
  rw [← h.above] at hl
  refine ⟨h.out.set i _ hi (by rw [((h.out.wr hW).2 i hi).1]; rfl), fun j hj => ?_, fun j hj => ?_, ?_, by rw [vb_tail _ _ _ _ hi]⟩
  · unfold upd; split
    · exact hl
    · exact h.lt j hj
  · unfold upd; rw [if_neg (by omega)]; exact h.todo j (by omega)
  · rw [vb_tail _ _ _ _ hi, vb_tail _ _ _ _ hi, lower_num _ _ _ _ ht, ← h.above, ← h.num]
    congr 1
    · simp [upd]
    · congr 1
      exact vb_congr (fun j _ => by unfold upd; rw [if_neg (by omega)])

set_option maxRecDepth 100000 in
set_option maxHeartbeats 1000000 in
theorem lower_any (S o n capS s : Nat) (f : Nat → Nat) (hn : (n : Int) ≤ 34000000000) (hs : s < 32) (hf : ∀ j, j < n → f j < 4294967296) (w : World) (hW : Wr w S o n f) :
    Calls Try.prog 69 #[.slice (some ⟨S, o, none⟩) n capS, .int .i64 s] w fun e w' => e = .returned (.tuple #[]) ∧ ∃ cur, HoldsN S o n cur w w' ∧ (∀ j, j < n → cur j < 4294967296) ∧ vb 4294967296 cur n = vb 4294967296 f n / 2 ^ s := by
  have HF := Lib.hid hf; clear hf
  have HW := Lib.hid hW; clear hW
  have hs0 : (0 : Int) ≤ s := by omega
  have hs1 : (s : Int) < 32 := by omega
  obtain ⟨t, ht⟩ : ∃ t : Nat, (32 : Int) - (s : Int) = (t : Int) := ⟨32 - s, by omega⟩
  have ht0 : (0 : Int) ≤ t := by omega
  have ht1 : (t : Int) ≤ 32 := by omega
  have HT : Hid (s + t = 32) := Lib.hid (by omega)
  go_enter Try.func69, Try.ntmps69
  go_wp2
  go_loopw [4, 5] (fun av iv wr => ∃ (z : Int) (c ab : Nat), c ≤ n ∧ z = (c : Int) - 1 ∧ iv = .int .i64 z ∧ av = .int .u32 ab ∧ Hid (∃ cur, LowR S o n c s t f cur ab w wr)) (fun _ iv _ => (intOf iv + 1).toNat)
  case atStart => exact ⟨(n : Int) - 1, n, 0, by omega, rfl, rfl, rfl, Lib.hid ⟨f, HW.out.holds, HF.out, fun _ _ => rfl, by rw [Nat.sub_self]; simp [vb], by rw [Nat.sub_self]; simp [vb]⟩⟩
  case round =>
    obtain ⟨z, c, ab, hc, hz, rfl, rfl, H⟩ := hrel
    cases c with
    | zero =>
      have hz1 : z < 0 := by omega
      have hzf : decide (0 ≤ z) = false := by rw [decide_eq_false_iff_not]; omega
      have HZ := Lib.hid hz; clear hz
      go_wp2
      obtain ⟨cur, HO⟩ := H.out
      go_end0
      refine ⟨rfl, cur, HO.out, HO.lt, ?_⟩
      have := HO.num
      simp only [Nat.zero_add, Nat.sub_zero] at this
      exact this
    | succ i =>
      obtain rfl : z = (i : Int) := by omega
      have hi0 : (0 : Int) ≤ i := by omega
      have hin : (i : Int) < n := by omega
      obtain ⟨cur, HO⟩ := H.out
      have hcur : cur i = f i := HO.todo i (by omega)
      obtain ⟨co, fo⟩ := (HO.out.wr HW.out).2 i (by omega)
      rw [hcur] at co
      have HA := Lib.hid (lower_above (f i) s t HT.out (vb 4294967296 (fun j => f (i + 1 + j)) (n - (i + 1))))
      have ho := (lower_or (f i) s t (vb 4294967296 (fun j => f (i + 1 + j)) (n - (i + 1))) (HF.out i (by omega)) HT.out).1
      rw [← HO.above] at ho
      have HOR := Lib.hid ho; clear ho
      have HN := Lib.hid (HO.next HW.out (show i < n by omega) HT.out (HF.out i (by omega)))
      clear hz HO hcur
      go_wp2
      go_roundw
      case rel =>
        rw [HA.out, HOR.out]
        exact ⟨_, i, _, by omega, rfl, rfl, rfl, Lib.hid ⟨_, HN.out⟩⟩
      case measure => first | (simp [intOf]; done) | (simp [intOf]; omega)
end Go.Proofs.Ytgegkffigjogcaa

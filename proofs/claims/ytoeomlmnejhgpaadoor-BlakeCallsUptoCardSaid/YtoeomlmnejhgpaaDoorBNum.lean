/- BLAKE2b: eight bytes as a number, by the program and by the reference. -/
import Derived.Test.YtoeomlmnejhgpaaDoorBBy
import Derived.Test.YtoeomlmnejhgpaaDoorBXor
namespace Go.Proofs.YtoeomlmnejhgpaaDoor
open Go.RowKit

/-- The number of the first n bytes, the lowest first. -/
def n8 (f : Nat → Nat) : Nat → Nat
  | 0 => 0
  | n + 1 => n8 f n + 256 ^ n * f n
theorem n8_lt {f : Nat → Nat} (hf : ∀ j, f j < 256) : ∀ n, n8 f n < 256 ^ n
  | 0 => by simp [n8]
  | n + 1 => by
    have h1 := n8_lt hf n
    have h2 : 256 ^ n * f n ≤ 256 ^ n * 255 := Nat.mul_le_mul_left _ (by have := hf n; omega)
    simp only [n8]
    rw [Nat.pow_succ]
    omega
theorem n8_congr {f g : Nat → Nat} : ∀ n, (∀ j, j < n → f j = g j) → n8 f n = n8 g n
  | 0, _ => rfl
  | n + 1, h => by simp only [n8]; rw [n8_congr n (fun j hj => h j (by omega)), h n (by omega)]
/-- The number from the highest byte on. -/
def h8 (f : Nat → Nat) : Nat → Nat
  | 0 => 0
  | d + 1 => h8 f d * 256 + f (7 - d)
theorem h8_full (f : Nat → Nat) : h8 f 8 = n8 f 8 := by
  simp [h8, n8]
  omega
theorem h8_lt {f : Nat → Nat} (hf : ∀ j, f j < 256) : ∀ d, h8 f d < 256 ^ d
  | 0 => by simp [h8]
  | d + 1 => by
    have h1 := h8_lt hf d
    have h2 := hf (7 - d)
    simp only [h8]
    rw [Nat.pow_succ]
    omega
theorem or_above (n e y : Nat) (h : n < 2 ^ e) : n ||| y * 2 ^ e = n + y * 2 ^ e := by
  have := Nat.two_pow_add_eq_or_of_lt (b := n) (i := e) h y
  rw [Nat.mul_comm y, Nat.or_comm]
  omega
theorem pow256 (k : Nat) : (256 : Nat) ^ k = 2 ^ (8 * k) := by rw [show (256 : Nat) = 2 ^ 8 by rfl, ← Nat.pow_mul]
set_option maxRecDepth 100000 in
set_option maxHeartbeats 2000000 in
-- WHAT blake.number COMES TO.
theorem number_any (g o cap : Nat) (f : Nat → Nat) (hf : ∀ j, f j < 256) (w : World) (hc : ∀ j, j < 8 → w.cell? ⟨g, o + j, none⟩ = some (.int .u8 (f j : Nat))) : Calls Tryd.prog 91 #[.slice (some ⟨g, o, none⟩) 8 cap] w fun e w' => e = .returned (.int .u64 (n8 f 8 : Nat)) ∧ w = w' := by
  have HF := Lib.hid hf; clear hf
  have HC := Lib.hid hc; clear hc
  go_enter Tryd.func91, Tryd.ntmps91
  go_wp2_with fail
  go_loopw [3, 8] (fun ov iv wr => ∃ k : Nat, k ≤ 8 ∧ iv = .int .i64 k ∧ ov = .int .u64 (n8 f k : Nat) ∧ w = wr) (fun _ iv _ => 8 - (intOf iv).toNat)
  case atStart => exact ⟨0, by omega, rfl, rfl, rfl⟩
  case round =>
    obtain ⟨k, hk, rfl, rfl, rfl⟩ := hrel
    have hk0 : (0 : Int) ≤ k := by omega
    by_cases hlt : k < 8
    · have hlt' : (k : Int) < 8 := by omega
      have ck := HC.out k hlt
      obtain ⟨e, he⟩ : ∃ e : Nat, 8 * (k : Int) = (e : Int) := ⟨8 * k, by omega⟩
      have he0 : (0 : Int) ≤ e := by omega
      have he1 : (e : Int) < 64 := by omega
      have hwe : IntKind.i64.wrap (e : Int) = (e : Int) := by rw [IntKind.wrap_i64]; omega
      obtain ⟨x, hx⟩ : ∃ x, f k = x := ⟨_, rfl⟩
      have hxl : x < 256 := by rw [← hx]; exact HF.out k
      obtain ⟨n, hn⟩ : ∃ n, n8 f k = n := ⟨_, rfl⟩
      have hnl : n < 2 ^ e := by
        have := n8_lt HF.out k
        rw [hn, pow256, show 8 * k = e by omega] at this
        exact this
      have h256 : (256 : Nat) ^ k = 2 ^ e := by rw [pow256, show 8 * k = e by omega]
      have hxe : x * 2 ^ e < 18446744073709551616 := by
        have h1 : 2 ^ e * 256 ≤ 2 ^ 56 * 256 := Nat.mul_le_mul_right _ (Nat.pow_le_pow_right (by omega) (by omega))
        have h2 : x * 2 ^ e ≤ 255 * 2 ^ e := Nat.mul_le_mul_right _ (by omega)
        omega
      have hnl2 : n < 18446744073709551616 := by
        have h1 : 2 ^ e ≤ 2 ^ 56 := Nat.pow_le_pow_right (by omega) (by omega)
        omega
      obtain ⟨y, hy⟩ : ∃ y, x * 2 ^ e = y := ⟨_, rfl⟩
      have hwx : IntKind.u64.wrap ((x : Int) * 2 ^ e) = (y : Int) := by
        have e0 : ((x * 2 ^ e : Nat) : Int) = (x : Int) * 2 ^ e := by simp
        rw [← e0, hy, IntKind.wrap_u64]; omega
      have hor : bits .or .u64 (n : Int) (y : Int) = ((n + y : Nat) : Int) := by
        rw [bits_or_u64_nat _ _ hnl2 (by omega), ← hy, or_above n e x hnl]
      have hcx : IntKind.u64.wrap (x : Int) = (x : Int) := by rw [IntKind.wrap_u64]; omega
      have HN := Lib.hid (show n8 f (k + 1) = n + y from by show n8 f k + 256 ^ k * f k = _; rw [hn, hx, h256, Nat.mul_comm, hy])
      rw [hx] at ck
      rw [hn]
      have HOR := Lib.hid hor
      have hx0 : (0 : Int) ≤ x := by omega
      have HK := Lib.hid hlt
      clear hx hn hnl h256 hxe hy hxl hnl2 hor
      go_wp2_with fail
      rw [HOR.out]
      go_roundw
      case rel => exact ⟨k + 1, by have := HK.out; omega, by go_num, by rw [HN.out], trivial⟩
      case measure => simp [intOf]; omega
    · obtain rfl : k = 8 := by omega
      have hlt' : ¬ ((8 : Nat) : Int) < 8 := by omega
      go_wp2_with fail
      go_ret
      exact ⟨rfl, rfl⟩
set_option maxRecDepth 100000 in
set_option maxHeartbeats 2000000 in
-- WHAT THE REFERENCE's number COMES TO.
theorem rnumber_any (g o n cap : Nat) (hn : 8 ≤ n) (f : Nat → Nat) (hf : ∀ j, f j < 256) (w : World) (hc : ∀ j, j < 8 → w.cell? ⟨g, o + j, none⟩ = some (.int .u8 (f j : Nat))) : Calls Tryd.prog 74 #[.slice (some ⟨g, o, none⟩) n cap] w fun e w' => e = .returned (.int .u64 (n8 f 8 : Nat)) ∧ w = w' := by
  have HF := Lib.hid hf; clear hf
  have HC := Lib.hid hc; clear hc
  have hn8 : (8 : Int) ≤ n := by omega
  go_enter Tryd.func74, Tryd.ntmps74
  go_wp2_with fail
  go_loopw [3, 4] (fun ov iv wr => ∃ (z : Int) (d : Nat), d ≤ 8 ∧ z = 7 - (d : Int) ∧ iv = .int .i64 z ∧ ov = .int .u64 (h8 f d : Nat) ∧ w = wr) (fun _ iv _ => (intOf iv + 1).toNat)
  case atStart => exact ⟨7, 0, by omega, by omega, rfl, rfl, rfl⟩
  case round =>
    obtain ⟨z, d, hd, hz, rfl, rfl, rfl⟩ := hrel
    by_cases hlt : d < 8
    · obtain ⟨k, hk⟩ : ∃ k : Nat, z = (k : Int) := ⟨7 - d, by omega⟩
      subst hk
      have hk0 : (0 : Int) ≤ k := by omega
      have hk8 : (k : Int) < n := by omega
      have hk9 : (k : Int) < 8 := by omega
      have ck := HC.out k (by omega)
      obtain ⟨x, hx⟩ : ∃ x, f k = x := ⟨_, rfl⟩
      have hxl : x < 256 := by rw [← hx]; exact HF.out k
      obtain ⟨u, hu⟩ : ∃ u, h8 f d = u := ⟨_, rfl⟩
      have hul : u < 72057594037927936 := by
        have h1 := h8_lt HF.out d
        have h2 : (256 : Nat) ^ d ≤ 256 ^ 7 := Nat.pow_le_pow_right (by omega) (by omega)
        rw [hu] at h1
        omega
      have hwu : IntKind.u64.wrap ((u : Int) * 2 ^ 8) = ((u * 256 : Nat) : Int) := by rw [IntKind.wrap_u64]; omega
      have hwu2 : IntKind.u64.wrap ((u : Int) * 256) = ((u * 256 : Nat) : Int) := by rw [IntKind.wrap_u64]; omega
      have hcx : IntKind.u64.wrap (x : Int) = (x : Int) := by rw [IntKind.wrap_u64]; omega
      have hor : bits .or .u64 ((u * 256 : Nat) : Int) (x : Int) = ((u * 256 + x : Nat) : Int) := by
        rw [bits_or_u64_nat _ _ (by omega) (by omega)]
        have := Nat.two_pow_add_eq_or_of_lt (b := x) (i := 8) (by omega) u
        rw [Nat.mul_comm u, ← this]
      have HN := Lib.hid (show h8 f (d + 1) = u * 256 + x from by show h8 f d * 256 + f (7 - d) = _; rw [hu, show 7 - d = k by omega, hx])
      have HZ := Lib.hid (show (k : Int) = 7 - (d : Int) from hz)
      rw [hx] at ck
      rw [hu]
      have hx0 : (0 : Int) ≤ x := by omega
      have HK := Lib.hid hlt
      obtain ⟨U, hU⟩ : ∃ U, u * 256 = U := ⟨_, rfl⟩
      rw [hU] at hwu hwu2 hor HN
      have HOR := Lib.hid hor
      clear hx hu hul hxl hz hU hor hd hlt
      go_wp2_with fail
      rw [HOR.out]
      go_roundw
      case rel => exact ⟨(k : Int) - 1, d + 1, by have := HK.out; omega, by have := HZ.out; omega, rfl, by rw [HN.out], trivial⟩
      case measure => first | (simp [intOf]; done) | (simp [intOf]; omega)
    · obtain rfl : d = 8 := by omega
      have hz1 : z < 0 := by omega
      have hzf : decide (0 ≤ z) = false := by rw [decide_eq_false_iff_not]; omega
      have H8 := Lib.hid (h8_full f)
      clear hz hlt hd
      go_wp2_with fail
      go_ret
      exact ⟨by rw [← H8.out]; rfl, rfl⟩
end Go.Proofs.YtoeomlmnejhgpaaDoor

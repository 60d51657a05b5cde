/- The sponge: a byte laid over the state, bytes taken in one by one, what is told in the end. -/
import Derived.Test.YtcmpnnfnkcmpcaaDoorKRP
import Derived.Test.YtcmpnnfnkcmpcaaDoorKBy
namespace Go.Proofs.YtcmpnnfnkcmpcaaDoor
open Go.RowKit

/-- The byte x laid over the place p. -/
def xby (v : Nat → Int) (p x : Nat) : Nat → Int := updI v (p / 8) (bits .xor .u64 (v (p / 8)) ((x * 2 ^ (8 * (p % 8)) : Nat) : Int))
/-- The state behind m bytes. -/
def ab (f : Nat → Nat) : Nat → Nat → Int
  | 0 => fun _ => 0
  | m + 1 => if (m + 1) % 136 = 0 then kpm rcT 24 (xby (ab f m) (m % 136) (f m)) else xby (ab f m) (m % 136) (f m)
/-- The byte at a place. -/
def byt (v : Nat → Int) (i : Nat) : Int := v (i / 8) / 2 ^ (8 * (i % 8)) % 256
/-- The last state. -/
def fin (f : Nat → Nat) (m : Nat) : Nat → Int := kpm rcT 24 (xby (xby (ab f m) (m % 136) 1) 135 128)
/-- The hash of m bytes. -/
def ksh (f : Nat → Nat) (m : Nat) : Nat → Int := byt (fin f m)
theorem xby_rng {v : Nat → Int} (hv : ∀ i, i < 25 → 0 ≤ v i ∧ v i < 18446744073709551616) (p x : Nat) : ∀ i, i < 25 → 0 ≤ xby v p x i ∧ xby v p x i < 18446744073709551616 := fun i hi => by
  unfold xby updI
  by_cases h : i = p / 8
  · rw [if_pos h]; exact kxor_rng _ _
  · rw [if_neg h]; exact hv i hi
theorem ab_rng (f : Nat → Nat) : ∀ m i, i < 25 → 0 ≤ ab f m i ∧ ab f m i < 18446744073709551616
  | 0 => fun _ _ => by show (0 : Int) ≤ 0 ∧ (0 : Int) < 18446744073709551616; omega
  | m + 1 => fun i hi => by
    show 0 ≤ (if (m + 1) % 136 = 0 then _ else _ : Nat → Int) i ∧ (if (m + 1) % 136 = 0 then _ else _ : Nat → Int) i < _
    by_cases h : (m + 1) % 136 = 0
    · rw [if_pos h]; exact kpm_rng rcT 24 (xby_rng (ab_rng f m) _ _) i hi
    · rw [if_neg h]; exact xby_rng (ab_rng f m) _ _ i hi
theorem apt_of {w : World} (hT : KTab w) {V : Nat} (h : w.heap.size ≤ V) : Apt V := by
  have h1 := block_lt_of_cell (hT.pth 0 (by decide))
  have h2 := block_lt_of_cell (hT.rcs 0 (by decide))
  exact ⟨by omega, by omega⟩
theorem quo8 (p : Nat) (hp : p < 1000) (w : World) : (binOp BinOp.quo 3 (.int .i64 (p : Nat)) (.int .i64 8)).run Tryd.prog w = .ok (.int .i64 (p / 8 : Nat)) w := by
  obtain ⟨q, hq⟩ : ∃ q, p / 8 = q := ⟨_, rfl⟩
  rw [hq]
  have e1 : (p : Int).tdiv 8 = (q : Int) := by rw [Int.tdiv_eq_ediv_of_nonneg (by omega)]; omega
  have e0 : (p : Int) / 8 = (q : Int) := by omega
  have e2 : IntKind.i64.wrap (q : Int) = q := by rw [IntKind.wrap_i64]; omega
  go_simp
theorem rem8 (p : Nat) (hp : p < 1000) (w : World) : (binOp BinOp.rem 3 (.int .i64 (p : Nat)) (.int .i64 8)).run Tryd.prog w = .ok (.int .i64 (p % 8 : Nat)) w := by
  obtain ⟨q, hq⟩ : ∃ q, p % 8 = q := ⟨_, rfl⟩
  rw [hq]
  have e1 : (p : Int).tmod 8 = (q : Int) := by rw [Int.tmod_eq_emod_of_nonneg (by omega)]; omega
  have e0 : (p : Int) % 8 = (q : Int) := by omega
  have e2 : IntKind.i64.wrap (q : Int) = q := by rw [IntKind.wrap_i64]; omega
  go_simp
theorem mul8 (p : Nat) (hp : p < 8) (w : World) : (binOp BinOp.mul 3 (.int .i64 (p : Nat)) (.int .i64 8)).run Tryd.prog w = .ok (.int .i64 (8 * p : Nat)) w := by
  obtain ⟨q, hq⟩ : ∃ q, 8 * p = q := ⟨_, rfl⟩
  rw [hq]
  have e0 : (p : Int) * 8 = (q : Int) := by omega
  have e2 : IntKind.i64.wrap (q : Int) = q := by rw [IntKind.wrap_i64]; omega
  go_simp
theorem mul8' (p : Nat) (hp : p < 8) (w : World) : (binOp BinOp.mul 3 (.int .i64 8) (.int .i64 (p : Nat))).run Tryd.prog w = .ok (.int .i64 (8 * p : Nat)) w := by
  obtain ⟨q, hq⟩ : ∃ q, 8 * p = q := ⟨_, rfl⟩
  rw [hq]
  have e0 : (8 : Int) * p = (q : Int) := by omega
  have e2 : IntKind.i64.wrap (q : Int) = q := by rw [IntKind.wrap_i64]; omega
  go_simp
theorem cv8 (x : Nat) (hx : x < 256) (w : World) : (convert 5 34 (.int .u8 (x : Nat))).run Tryd.prog w = .ok (.int .u64 (x : Nat)) w := by
  have e2 : IntKind.u64.wrap (x : Int) = x := by rw [IntKind.wrap_u64]; omega
  go_simp
theorem up_lt {x s : Nat} (hx : x < 256) (hs : s ≤ 56) : x * 2 ^ s < 18446744073709551616 := by
  have h1 : x * 2 ^ s < 256 * 2 ^ s := Nat.mul_lt_mul_of_pos_right hx (Nat.pow_pos (by decide))
  have h2 : 2 ^ s ≤ 2 ^ 56 := Nat.pow_le_pow_right (by decide) hs
  have h3 : 256 * 2 ^ s ≤ 256 * 2 ^ 56 := Nat.mul_le_mul_left _ h2
  have h4 : 256 * 2 ^ 56 = 18446744073709551616 := by decide
  omega
theorem shl8 (x s : Nat) (hx : x < 256) (hs : s ≤ 56) (w : World) : (binOp BinOp.shl 34 (.int .u64 (x : Nat)) (.int .i64 (s : Nat))).run Tryd.prog w = .ok (.int .u64 (x * 2 ^ s : Nat)) w := by
  have hl := up_lt hx hs
  obtain ⟨X, hX⟩ : ∃ X, x * 2 ^ s = X := ⟨_, rfl⟩
  rw [hX] at hl ⊢
  have e0 : (x : Int) * 2 ^ s = (X : Int) := by rw [← hX, Int.natCast_mul, Int.natCast_pow]; rfl
  have e1 : (X : Int) % 18446744073709551616 = (X : Int) := by omega
  have e3 : IntKind.u64.wrap (X : Int) = (X : Int) := by rw [IntKind.wrap_u64]; omega
  have hs0 : (0 : Int) ≤ s := by omega
  have hs1 : (s : Int) < 64 := by omega
  go_simp
set_option maxRecDepth 100000 in
set_option maxHeartbeats 4000000 in
-- A BYTE LAID OVER THE STATE.
theorem kxb {V : Nat} {tt : TypeId} {tl : Array Value} {v : Nat → Int} (p x : Nat) (hp : p < 136) (hx : x < 256) (w : World) (hw : w.heap[V]? = some (.cells (kr v tl) tt (0, 0))) :
    Calls Tryd.prog 26 #[.pointer (some ⟨V, 0, none⟩), .int .i64 p, .int .u8 x] w fun e w' => e = .returned (.tuple #[]) ∧ CP w V tt tl (xby v p x) w' := by
  have H0 := Lib.hid (show CP w V tt tl v w from ⟨Bt.refl _ _, hw⟩)
  unfold xby
  clear hw
  have HP := Lib.hid (show p < 1000 by omega)
  have HX := Lib.hid hx
  obtain ⟨q, hq⟩ : ∃ q, p / 8 = q := ⟨_, rfl⟩
  obtain ⟨r, hr⟩ : ∃ q, p % 8 = q := ⟨_, rfl⟩
  obtain ⟨s, hs⟩ : ∃ q, 8 * r = q := ⟨_, rfl⟩
  obtain ⟨X, hX⟩ : ∃ q, x * 2 ^ s = q := ⟨_, rfl⟩
  rw [hq, hr, hs, hX]
  have M1 := Lib.hid (show ∀ w, (binOp BinOp.quo 3 (.int .i64 (p : Nat)) (.int .i64 8)).run Tryd.prog w = .ok (.int .i64 (q : Nat)) w from fun w => by rw [← hq]; exact quo8 p HP.out w)
  have M2 := Lib.hid (show ∀ w, (binOp BinOp.rem 3 (.int .i64 (p : Nat)) (.int .i64 8)).run Tryd.prog w = .ok (.int .i64 (r : Nat)) w from fun w => by rw [← hr]; exact rem8 p HP.out w)
  have M3 := Lib.hid (show ∀ w, (binOp BinOp.mul 3 (.int .i64 (r : Nat)) (.int .i64 8)).run Tryd.prog w = .ok (.int .i64 (s : Nat)) w from fun w => by rw [← hs]; exact mul8 r (by omega) w)
  have M4 := Lib.hid (show ∀ w, (binOp BinOp.shl 34 (.int .u64 (x : Nat)) (.int .i64 (s : Nat))).run Tryd.prog w = .ok (.int .u64 (X : Nat)) w from fun w => by rw [← hX]; exact shl8 x s HX.out (by omega) w)
  have M5 := Lib.hid (cv8 x hx)
  have HQ := Lib.hid (show q < 25 by omega)
  clear hq hr hs hX hp hx
  go_enter Tryd.func26, Tryd.ntmps26
  go_wp2_with fail
  refine region_quiet_tail 15 (CP w V tt tl v) (by kernel_rfl) (by kernel_rfl) H0.out.drew ?_
  simp only [List.take_succ_cons, List.take_zero, List.drop_succ_cons, List.drop_zero]
  with_reducible refine q_val (.pointer (some ⟨V, 0, none⟩)) (by kernel_rfl) (fun _ _ => by kernel_rfl) ?_
  with_reducible refine q_val (.int .i64 (p : Nat)) (by kernel_rfl) (fun _ _ => by kernel_rfl) ?_
  with_reducible refine q_v (binOp BinOp.quo 3 (.int .i64 (p : Nat)) (.int .i64 8)) (.int .i64 (q : Nat)) (by kernel_rfl) (by kernel_rfl) (fun wz _ => M1.out wz) ?_
  with_reducible refine q_val (.pointer (some ⟨V, 0, none⟩)) (by kernel_rfl) (fun _ _ => by kernel_rfl) ?_
  with_reducible refine q_v (Instr.indexAt 44 (.pointer (some ⟨V, 0, none⟩)) (.int .i64 (q : Nat))) (.pointer (some ⟨V, q, none⟩)) (by kernel_rfl) (by kernel_rfl) (fun wz _ => ixV V q HQ.out wz) ?_
  with_reducible refine q_load 34 (.tmp 10) (.pointer (some ⟨V, q, none⟩)) (.int .u64 (v q)) rfl (by kernel_rfl) (by kernel_rfl) (fun _ h => h.at' q HQ.out _ rfl) ?_
  with_reducible refine q_val (.int .u8 (x : Nat)) (by kernel_rfl) (fun _ _ => by kernel_rfl) ?_
  with_reducible refine q_v (convert 5 34 (.int .u8 (x : Nat))) (.int .u64 (x : Nat)) (by kernel_rfl) (by kernel_rfl) (fun wz _ => M5.out wz) ?_
  with_reducible refine q_val (.int .i64 (p : Nat)) (by kernel_rfl) (fun _ _ => by kernel_rfl) ?_
  with_reducible refine q_v (binOp BinOp.rem 3 (.int .i64 (p : Nat)) (.int .i64 8)) (.int .i64 (r : Nat)) (by kernel_rfl) (by kernel_rfl) (fun wz _ => M2.out wz) ?_
  with_reducible refine q_v (binOp BinOp.mul 3 (.int .i64 (r : Nat)) (.int .i64 8)) (.int .i64 (s : Nat)) (by kernel_rfl) (by kernel_rfl) (fun wz _ => M3.out wz) ?_
  with_reducible refine q_v (binOp BinOp.shl 34 (.int .u64 (x : Nat)) (.int .i64 (s : Nat))) (.int .u64 (X : Nat)) (by kernel_rfl) (by kernel_rfl) (fun wz _ => M4.out wz) ?_
  with_reducible refine q_val (.int .u64 (bits .xor .u64 (v q) (X : Nat))) (by kernel_rfl) (fun _ _ => by kernel_rfl) ?_
  with_reducible refine q_val (.pointer (some ⟨V, 0, none⟩)) (by kernel_rfl) (fun _ _ => by kernel_rfl) ?_
  with_reducible refine q_v (Instr.indexAt 44 (.pointer (some ⟨V, 0, none⟩)) (.int .i64 (q : Nat))) (.pointer (some ⟨V, q, none⟩)) (by kernel_rfl) (by kernel_rfl) (fun wz _ => ixV V q HQ.out wz) ?_
  with_reducible refine wpQuiet_nil ?_
  intro w1 hCx
  simp only [Act.put, List.setIfInBounds_toArray, List.set_cons_succ, List.set_cons_zero]
  have co := hCx.cell q HQ.out
  have fo := frozen_of_row _ _ q _ _ hCx.row
  have H2 := Lib.hid (hCx.set q HQ.out (bits .xor .u64 (v q) (X : Nat)))
  clear hCx H0
  go_wp2_with fail
  go_end0
  exact ⟨rfl, H2.out⟩
theorem shr8 (z : Int) (s : Nat) (hs : s ≤ 56) (w : World) : (binOp BinOp.shr 34 (.int .u64 z) (.int .i64 (s : Nat))).run Tryd.prog w = .ok (.int .u64 (z / 2 ^ s)) w := by
  have hs0 : (0 : Int) ≤ s := by omega
  have hs1 : (s : Int) < 64 := by omega
  go_simp
theorem byt_rng (v : Nat → Int) (i : Nat) : 0 ≤ byt v i ∧ byt v i < 256 := by
  unfold byt
  omega
set_option maxRecDepth 100000 in
set_option maxHeartbeats 4000000 in
-- A BYTE TOLD.
theorem kba {V : Nat} {tt : TypeId} {tl : Array Value} {v : Nat → Int} (i : Nat) (hi : i < 32) (w : World) (hw : w.heap[V]? = some (.cells (kr v tl) tt (0, 0))) :
    Calls Tryd.prog 38 #[.pointer (some ⟨V, 0, none⟩), .int .i64 i] w fun e w' => e = .returned (.int .u8 (byt v i)) ∧ w' = w := by
  have hb := byt_rng v i
  unfold byt at hb ⊢
  obtain ⟨q, hq⟩ : ∃ q, i / 8 = q := ⟨_, rfl⟩
  obtain ⟨r, hr⟩ : ∃ q, i % 8 = q := ⟨_, rfl⟩
  obtain ⟨s, hs⟩ : ∃ q, 8 * r = q := ⟨_, rfl⟩
  rw [hq, hr, hs] at hb ⊢
  have m1 : ∀ w, (binOp BinOp.quo 3 (.int .i64 (i : Nat)) (.int .i64 8)).run Tryd.prog w = .ok (.int .i64 (q : Nat)) w := fun w => by rw [← hq]; exact quo8 i (by omega) w
  have d1 : (i : Int) / 8 = (q : Int) := by omega
  have d2 : (i : Int) % 8 = (r : Int) := by omega
  have d3 : (r : Int) * 8 = (s : Int) := by omega
  have hr0 : (0 : Int) ≤ r := by omega
  have hr8 : (r : Int) < 8 := by omega
  have hs0 : (0 : Int) ≤ s := by omega
  have hs1 : (s : Int) < 64 := by omega
  have hi0 : (0 : Int) ≤ i := by omega
  have hi1 : (i : Int) < 32 := by omega
  have hix := ixV V q (by omega)
  have co : w.cell? ⟨V, q, none⟩ = some (.int .u64 (v q)) := (cell_of_row w _ q _ _ _ hw).trans (kr_at _ _ _ (by omega))
  obtain ⟨z, hz⟩ : ∃ z, v q = z := ⟨_, rfl⟩
  rw [hz] at co hb ⊢
  have hwz : IntKind.u8.wrap (z / 2 ^ s) = z / 2 ^ s % 256 := by rw [IntKind.wrap_u8]
  clear hq hr hs hw hi hz hb
  go_enter Tryd.func38, Tryd.ntmps38
  go_wp2
  go_ret
  exact ⟨rfl, rfl⟩
/-- A sponge's cells. -/
theorem kr_tail (v : Nat → Int) (x y : Value) : (kr v #[x]).setIfInBounds 25 y = kr v #[y] := by
  unfold kr
  rw [Array.setIfInBounds_append, if_neg (by rw [ar_size]; omega), ar_size]
  rfl
theorem kr_25 (v : Nat → Int) (x : Value) : (kr v #[x])[25]? = some x := by
  unfold kr
  rw [Array.getElem?_append_right (by rw [ar_size]; omega), ar_size]
  rfl
theorem kr_size (v : Nat → Int) (tl : Array Value) : (kr v tl).size = 25 + tl.size := by
  unfold kr
  rw [Array.size_append, ar_size]
theorem kr_one (v : Nat → Int) (n : Int) : (kr v #[.int .i64 n]).all (·.oneCell') = true := by
  unfold kr
  rw [Array.all_append, ar_one]
  simp [Value.oneCell']
/-- The worlds of Write: the sponge at V. -/
def CW (w : World) (V : Nat) (v : Nat → Int) (n : Nat) (wx : World) : Prop := CP w V 46 #[.int .i64 (n : Nat)] v wx
theorem CW.fill {w wx : World} {V n : Nat} {v : Nat → Int} (h : CW w V v n wx) : wx.cell? ⟨V, 25, none⟩ = some (.int .i64 (n : Nat)) := (cell_of_row wx _ 25 _ _ _ h.row).trans (kr_25 _ _)
theorem CW.setn {w wx : World} {V n : Nat} {v : Nat → Int} (h : CW w V v n wx) (m : Nat) : CW w V v m (wx.setCell ⟨V, 25, none⟩ (.int .i64 (m : Nat))) :=
  ⟨h.bt.set 25 _, (heap_setCell_same _ _ _ _ _ _ h.row).trans (by rw [kr_tail])⟩
theorem sep_of {w : World} {a : Option Addr} {n V : Nat} {f : Nat → Nat} (h : RdB w a n f) (hV : w.heap.size ≤ V) : 0 < n → ∀ b o, a = some ⟨b, o, none⟩ → b ≠ V := fun h0 b o e => by
  rcases h with h | ⟨b', o', e', h1, h2⟩
  · omega
  · rw [e] at e'
    cases e'
    omega
set_option maxRecDepth 100000 in
set_option maxHeartbeats 4000000 in
-- WHAT Write COMES TO.
theorem kwr {V m n : Nat} {f : Nat → Nat} (a : Option Addr) (cap : Nat) (hn : n < 1125899906842624) (hf : ∀ j, f j < 256) (w : World) (hT : KTab w) (hA : Apt V) (hsep : 0 < n → ∀ b o, a = some ⟨b, o, none⟩ → b ≠ V) (hr : RdB w a n (fun j => f (m + j)))
    (hw : w.heap[V]? = some (.cells (kr (ab f m) #[.int .i64 (m % 136 : Nat)]) 46 (0, 0))) :
    Calls Tryd.prog 11 #[.pointer (some ⟨V, 0, none⟩), .slice a n cap] w fun e w' => e = .returned (.tuple #[]) ∧ CW w V (ab f (m + n)) ((m + n) % 136) w' := by
  have H0 := Lib.hid (show CW w V (ab f (m + 0)) ((m + 0) % 136) w from ⟨Bt.refl _ _, hw⟩)
  have HT := Lib.hid (And.intro hT hA)
  have HS := Lib.hid (And.intro hsep hr)
  have HF := Lib.hid hf
  have hn0 : (0 : Int) ≤ n := by omega
  have hn' : (n : Int) < 1125899906842624 := by omega
  clear hw hT hA hsep hr hf hn
  go_enter Tryd.func11, Tryd.ntmps11
  go_wp2_with fail
  go_loopw [8] (fun i wr => ∃ k : Nat, k ≤ n ∧ i = .int .i64 k ∧ Hid (CW w V (ab f (m + k)) ((m + k) % 136) wr)) (fun i _ => n - (intOf i).toNat)
  case atStart => exact ⟨0, by omega, rfl, H0⟩
  case round =>
    obtain ⟨k, hk, rfl, H⟩ := hrel
    clear H0
    have hk0 : (0 : Int) ≤ k := by omega
    by_cases hlt : k < n
    · have hlt' : (k : Int) < n := by omega
      have hk1 : (k : Int) < 1125899906842624 := by omega
      obtain ⟨b, o, rfl, hbl, hcell⟩ : ∃ b o, a = some ⟨b, o, none⟩ ∧ b < w.heap.size ∧ ∀ j, j < n → w.cell? ⟨b, o + j, none⟩ = some (.int .u8 (f (m + j) : Nat)) := by
        rcases HS.out.2 with h0 | h0
        · omega
        · exact h0
      have hne := HS.out.1 (by omega) b o rfl
      have cx : wr.cell? ⟨b, o + k, none⟩ = some (.int .u8 (f (m + k) : Nat)) := (H.out.bt.cell (p := ⟨b, o + k, none⟩) hne hbl).trans (hcell k hlt)
      have HX := Lib.hid (HF.out (m + k))
      obtain ⟨p, hp⟩ : ∃ p, (m + k) % 136 = p := ⟨_, rfl⟩
      have hp136 : p < 136 := by omega
      obtain ⟨x, hx⟩ : ∃ x, f (m + k) = x := ⟨_, rfl⟩
      have hab : ab f (m + (k + 1)) = if (m + (k + 1)) % 136 = 0 then kpm rcT 24 (xby (ab f (m + k)) p x) else xby (ab f (m + k)) p x := by
        show ab f (m + k + 1) = _
        rw [ab, hp, hx]
        rfl
      have HB := Lib.hid hab
      have HP := Lib.hid hp
      rw [hx] at HX cx
      rw [hp] at H
      obtain ⟨v, hv⟩ : ∃ v, ab f (m + k) = v := ⟨_, rfl⟩
      rw [hv] at H HB
      clear hab hp hx hv hcell
      have hix : ∀ w, (Instr.indexAt 22 (.slice (some ⟨b, o, none⟩) n cap) (.int .i64 (k : Nat))).run Tryd.prog w = .ok (.pointer (some ⟨b, o + k, none⟩)) w := fun w => by go_simp
      go_wp2_with fail
      refine region_quiet_tail 8 (CW w V v p) (by kernel_rfl) (by kernel_rfl) H.out.drew ?_
      simp only [List.take_succ_cons, List.take_zero, List.drop_succ_cons, List.drop_zero]
      with_reducible refine q_val (.pointer (some ⟨V, 0, none⟩)) (by kernel_rfl) (fun _ _ => by kernel_rfl) ?_
      with_reducible refine q_val (.pointer (some ⟨V, 0, none⟩)) (by kernel_rfl) (fun _ _ => by kernel_rfl) ?_
      with_reducible refine q_val (.pointer (some ⟨V, 0, none⟩)) (by kernel_rfl) (fun _ _ => by kernel_rfl) ?_
      with_reducible refine q_val (.pointer (some ⟨V, 0, none⟩)) (by kernel_rfl) (fun _ _ => by kernel_rfl) ?_
      with_reducible refine q_val (.pointer (some ⟨V, 0, none⟩)) (by kernel_rfl) (fun _ _ => by kernel_rfl) ?_
      with_reducible refine q_val (.pointer (some ⟨V, 25, none⟩)) (by kernel_rfl) (fun _ _ => by kernel_rfl) ?_
      with_reducible refine q_load 3 (.tmp 17) (.pointer (some ⟨V, 25, none⟩)) (.int .i64 (p : Nat)) rfl (by kernel_rfl) (by kernel_rfl) (fun _ h => kloadi _ _ _ _ h.fill) ?_
      with_reducible refine q_val (.int .u8 (x : Nat)) (by kernel_rfl) (fun _ _ => by kernel_rfl) ?_
      with_reducible refine wpQuiet_nil ?_
      intro w1 hCx
      simp only [Act.put, List.setIfInBounds_toArray, List.set_cons_succ, List.set_cons_zero]
      have H1 := Lib.hid hCx
      clear hCx H cx
      go_wp2_with fail
      refine (kxb p x hp136 HX.out _ H1.out.row).mono ?_
      rintro e u ⟨rfl, h⟩
      have H2 := Lib.hid (show CW w V (xby v p x) p u from ⟨H1.out.bt.trans h.bt, h.row⟩)
      clear H1 h
      have c25 := H2.out.fill
      have f25 := frozen_of_row _ _ 25 _ _ H2.out.row
      have hp0 : (0 : Int) ≤ p := by omega
      have hp1 : (p : Int) < 136 := by omega
      have hs := H2.out.setn (p + 1)
      rw [show (((p + 1 : Nat) : Int)) = (p : Int) + 1 by omega] at hs
      obtain ⟨u2, hu2⟩ : ∃ z, u.setCell ⟨V, 25, none⟩ (.int .i64 ((p : Int) + 1)) = z := ⟨_, rfl⟩
      rw [hu2] at hs
      have c26 : u2.cell? ⟨V, 25, none⟩ = some (.int .i64 ((p : Int) + 1)) := by
        have := hs.fill
        rwa [show (((p + 1 : Nat) : Int)) = (p : Int) + 1 by omega] at this
      have H3 := Lib.hid hs
      clear hs
      by_cases h136 : p + 1 = 136
      · have ht : ((p : Int) + 1 == 136) = true := by simp; omega
        go_wp2_with fail
        refine (kperm _ (HT.out.1.bt HT.out.2 H3.out.bt) HT.out.2 H3.out.row).mono ?_
        rintro e u3 ⟨rfl, h⟩
        have H4 := Lib.hid (show CW w V (kpm rcT 24 (xby v p x)) (p + 1) u3 from ⟨H3.out.bt.trans h.bt, h.row⟩)
        clear H2 H3 h c25 c26 f25 hu2
        have c25 := H4.out.fill
        have f25 := frozen_of_row _ _ 25 _ _ H4.out.row
        have H5 := Lib.hid (H4.out.setn 0)
        clear H4
        go_wp2_with fail
        go_roundw
        case rel =>
          refine ⟨k + 1, by omega, by go_num, ?_⟩
          have e : (m + (k + 1)) % 136 = 0 := by have := HP.out; omega
          rw [HB.out, e, if_pos rfl]
          exact H5
        case measure => simp [intOf]; omega
      · have ht : ((p : Int) + 1 == 136) = false := by simp; omega
        go_wp2_with fail
        go_roundw
        case rel =>
          refine ⟨k + 1, by omega, by go_num, ?_⟩
          have e : (m + (k + 1)) % 136 = p + 1 := by have := HP.out; omega
          rw [HB.out, e, if_neg (by omega)]
          exact H3
        case measure => simp [intOf]; omega
    · obtain rfl : k = n := by omega
      have hlt' : ¬ (k : Int) < k := by omega
      go_wp2_with fail
      go_end0
      exact ⟨rfl, H.out⟩
/-- Bytes while they are told. -/
def bD (h : Nat → Int) (i j : Nat) : Int := if j < i then h j else 0
theorem bD_next (h : Nat → Int) (i : Nat) : updI (bD h i) i (h i) = bD h (i + 1) := by
  funext j
  unfold updI bD
  by_cases e : j = i
  · subst e; rw [if_pos rfl, if_pos (by omega)]
  · rw [if_neg e]
    by_cases e2 : j < i
    · rw [if_pos e2, if_pos (by omega)]
    · rw [if_neg e2, if_neg (by omega)]
theorem bD_32 (h : Nat → Int) : ar .u8 32 (bD h 32) = ar .u8 32 h := ar_congr fun j hj => by unfold bD; rw [if_pos hj]
theorem bD_0 (h : Nat → Int) : ar .u8 32 (bD h 0) = #[.int .u8 0, .int .u8 0, .int .u8 0, .int .u8 0, .int .u8 0, .int .u8 0, .int .u8 0, .int .u8 0, .int .u8 0, .int .u8 0, .int .u8 0, .int .u8 0, .int .u8 0, .int .u8 0, .int .u8 0, .int .u8 0, .int .u8 0, .int .u8 0, .int .u8 0, .int .u8 0, .int .u8 0, .int .u8 0, .int .u8 0, .int .u8 0, .int .u8 0, .int .u8 0, .int .u8 0, .int .u8 0, .int .u8 0, .int .u8 0, .int .u8 0, .int .u8 0] := by
  rw [ar_congr (fun j _ => show bD h 0 j = (fun _ => (0 : Int)) j by unfold bD; rw [if_neg (by omega)])]
  kernel_rfl
/-- The worlds of finish: the sponge's copy at S, the answer's place at S + 1, what is told at O. -/
structure CN (w : World) (O : Nat) (v : Nat → Int) (n : Nat) (h : Nat → Int) (wx : World) : Prop where
  old : Below w.heap.size w wx
  rs : wx.heap[w.heap.size]? = some (.cells (kr v #[.int .i64 (n : Nat)]) 46 (0, 0))
  r1 : wx.heap[w.heap.size + 1]? = some (.cells #[.int .u8 0, .int .u8 0, .int .u8 0, .int .u8 0, .int .u8 0, .int .u8 0, .int .u8 0, .int .u8 0, .int .u8 0, .int .u8 0, .int .u8 0, .int .u8 0, .int .u8 0, .int .u8 0, .int .u8 0, .int .u8 0, .int .u8 0, .int .u8 0, .int .u8 0, .int .u8 0, .int .u8 0, .int .u8 0, .int .u8 0, .int .u8 0, .int .u8 0, .int .u8 0, .int .u8 0, .int .u8 0, .int .u8 0, .int .u8 0, .int .u8 0, .int .u8 0] 25 (0, 0))
  ro : wx.heap[O]? = some (.cells (ar .u8 32 h) 25 (0, 0))
  hO : w.heap.size + 1 + 1 ≤ O
theorem CN.set {w wx : World} {O n : Nat} {v h : Nat → Int} (c : CN w O v n h wx) (j : Nat) (hj : j < 32) (y : Int) : CN w O v n (updI h j y) (wx.setCell ⟨O, j, none⟩ (.int .u8 y)) := by
  have hO := c.hO
  exact ⟨c.old.setCell (by show w.heap.size ≤ O; omega) _, (heap_setCell_other _ _ _ _ (by show w.heap.size ≠ O; omega)).trans c.rs, (heap_setCell_other _ _ _ _ (by show w.heap.size + 1 ≠ O; omega)).trans c.r1, (heap_setCell_same _ _ _ _ _ _ c.ro).trans (by rw [ar_set _ _ _ _ _ hj]), hO⟩
theorem info32 : (Tryd.prog.info? 25).map (·.size) = some 32 := by kernel_rfl
theorem kfi_start (w : World) (v : Nat → Int) (n : Nat) : CW w w.heap.size v n ((w.alloc (.cells (kr v #[.int .i64 (n : Nat)]) 46)).alloc (.cells #[.int .u8 0, .int .u8 0, .int .u8 0, .int .u8 0, .int .u8 0, .int .u8 0, .int .u8 0, .int .u8 0, .int .u8 0, .int .u8 0, .int .u8 0, .int .u8 0, .int .u8 0, .int .u8 0, .int .u8 0, .int .u8 0, .int .u8 0, .int .u8 0, .int .u8 0, .int .u8 0, .int .u8 0, .int .u8 0, .int .u8 0, .int .u8 0, .int .u8 0, .int .u8 0, .int .u8 0, .int .u8 0, .int .u8 0, .int .u8 0, .int .u8 0, .int .u8 0] 25)) ∧ ((w.alloc (.cells (kr v #[.int .i64 (n : Nat)]) 46)).alloc (.cells #[.int .u8 0, .int .u8 0, .int .u8 0, .int .u8 0, .int .u8 0, .int .u8 0, .int .u8 0, .int .u8 0, .int .u8 0, .int .u8 0, .int .u8 0, .int .u8 0, .int .u8 0, .int .u8 0, .int .u8 0, .int .u8 0, .int .u8 0, .int .u8 0, .int .u8 0, .int .u8 0, .int .u8 0, .int .u8 0, .int .u8 0, .int .u8 0, .int .u8 0, .int .u8 0, .int .u8 0, .int .u8 0, .int .u8 0, .int .u8 0, .int .u8 0, .int .u8 0] 25)).heap[w.heap.size + 1]? = some (.cells #[.int .u8 0, .int .u8 0, .int .u8 0, .int .u8 0, .int .u8 0, .int .u8 0, .int .u8 0, .int .u8 0, .int .u8 0, .int .u8 0, .int .u8 0, .int .u8 0, .int .u8 0, .int .u8 0, .int .u8 0, .int .u8 0, .int .u8 0, .int .u8 0, .int .u8 0, .int .u8 0, .int .u8 0, .int .u8 0, .int .u8 0, .int .u8 0, .int .u8 0, .int .u8 0, .int .u8 0, .int .u8 0, .int .u8 0, .int .u8 0, .int .u8 0, .int .u8 0] 25 (0, 0)) := by
  refine ⟨⟨((Bt.refl _ _).alloc _).alloc _, (heap_alloc_old _ _ (by simp)).trans (heap_alloc_new _ _)⟩, ?_⟩
  have h := heap_alloc_new (w.alloc (.cells (kr v #[.int .i64 (n : Nat)]) 46)) (.cells #[.int .u8 0, .int .u8 0, .int .u8 0, .int .u8 0, .int .u8 0, .int .u8 0, .int .u8 0, .int .u8 0, .int .u8 0, .int .u8 0, .int .u8 0, .int .u8 0, .int .u8 0, .int .u8 0, .int .u8 0, .int .u8 0, .int .u8 0, .int .u8 0, .int .u8 0, .int .u8 0, .int .u8 0, .int .u8 0, .int .u8 0, .int .u8 0, .int .u8 0, .int .u8 0, .int .u8 0, .int .u8 0, .int .u8 0, .int .u8 0, .int .u8 0, .int .u8 0] 25)
  simpa using h
set_option maxRecDepth 100000 in
set_option maxHeartbeats 4000000 in
-- WHAT finish COMES TO.
theorem kfi (v : Nat → Int) (n : Nat) (hn : n < 136) (w : World) (hT : KTab w) :
    Calls Tryd.prog 25 #[.agg (kr v #[.int .i64 (n : Nat)])] w fun e w' => e = .returned (.agg (ar .u8 32 (byt (kpm rcT 24 (xby (xby v n 1) 135 128))))) ∧ Below w.heap.size w w' := by
  have HS := kfi_start w v n
  have H0 := Lib.hid HS.1
  have HT := Lib.hid (And.intro hT (apt_of hT (Nat.le_refl _)))
  have hrs := HS.2
  have HR := Lib.hid hrs
  have hsz : ((w.alloc (.cells (kr v #[.int .i64 (n : Nat)]) 46)).alloc (.cells #[.int .u8 0, .int .u8 0, .int .u8 0, .int .u8 0, .int .u8 0, .int .u8 0, .int .u8 0, .int .u8 0, .int .u8 0, .int .u8 0, .int .u8 0, .int .u8 0, .int .u8 0, .int .u8 0, .int .u8 0, .int .u8 0, .int .u8 0, .int .u8 0, .int .u8 0, .int .u8 0, .int .u8 0, .int .u8 0, .int .u8 0, .int .u8 0, .int .u8 0, .int .u8 0, .int .u8 0, .int .u8 0, .int .u8 0, .int .u8 0, .int .u8 0, .int .u8 0] 25)).heap.size = w.heap.size + 1 + 1 := by simp
  have cf := H0.out.fill
  have HI : ∀ f, Hid ((Tryd.prog.info? 25).map (·.size) = some (ar .u8 32 f).size) := fun f => Lib.hid (by rw [ar_size]; exact info32)
  obtain ⟨w1, hw1⟩ : ∃ z, (w.alloc (.cells (kr v #[.int .i64 (n : Nat)]) 46)).alloc (.cells #[.int .u8 0, .int .u8 0, .int .u8 0, .int .u8 0, .int .u8 0, .int .u8 0, .int .u8 0, .int .u8 0, .int .u8 0, .int .u8 0, .int .u8 0, .int .u8 0, .int .u8 0, .int .u8 0, .int .u8 0, .int .u8 0, .int .u8 0, .int .u8 0, .int .u8 0, .int .u8 0, .int .u8 0, .int .u8 0, .int .u8 0, .int .u8 0, .int .u8 0, .int .u8 0, .int .u8 0, .int .u8 0, .int .u8 0, .int .u8 0, .int .u8 0, .int .u8 0] 25) = z := ⟨_, rfl⟩
  have HB0 := Lib.hid (show Below w.heap.size w w1 from by rw [← hw1]; go_grown)
  rw [hw1] at H0 HR hsz cf
  have HSZ := Lib.hid hsz
  clear HS hrs hT hsz
  go_enter Tryd.func25, Tryd.ntmps25
  go_wp2_with fail
  refine (kxb n 1 hn (by decide) _ H0.out.row).mono ?_
  rintro e u ⟨rfl, h⟩
  have H1 := Lib.hid (show CW w1 w.heap.size (xby v n 1) n u from h)
  clear h H0 cf
  go_wp2_with fail
  refine (kxb 135 128 (by decide) (by decide) _ H1.out.row).mono ?_
  rintro e u2 ⟨rfl, h⟩
  have H2 := Lib.hid (show CW w1 w.heap.size (xby (xby v n 1) 135 128) n u2 from ⟨H1.out.bt.trans h.bt, h.row⟩)
  clear h H1
  have KT := (HT.out.1.below (Below.mono HB0.out (Nat.le_refl _))).bt HT.out.2 H2.out.bt
  go_wp2_with fail
  refine (kperm _ KT HT.out.2 H2.out.row).mono ?_
  rintro e u3 ⟨rfl, h⟩
  obtain ⟨z, hz⟩ : ∃ z, kpm rcT 24 (xby (xby v n 1) 135 128) = z := ⟨_, rfl⟩
  rw [hz] at h
  have HZ := Lib.hid hz
  have H3 := Lib.hid (show CW w1 w.heap.size z n u3 from ⟨H2.out.bt.trans h.bt, h.row⟩)
  clear h H2 KT hz
  obtain ⟨O, hO⟩ : ∃ O, u3.heap.size = O := ⟨_, rfl⟩
  have hO2 : w.heap.size + 1 + 1 ≤ O := by have := H3.out.bt.size; have := HSZ.out; omega
  have H4 := Lib.hid (show CN w O z n (bD (byt z) 0) (u3.alloc (.cells #[.int .u8 0, .int .u8 0, .int .u8 0, .int .u8 0, .int .u8 0, .int .u8 0, .int .u8 0, .int .u8 0, .int .u8 0, .int .u8 0, .int .u8 0, .int .u8 0, .int .u8 0, .int .u8 0, .int .u8 0, .int .u8 0, .int .u8 0, .int .u8 0, .int .u8 0, .int .u8 0, .int .u8 0, .int .u8 0, .int .u8 0, .int .u8 0, .int .u8 0, .int .u8 0, .int .u8 0, .int .u8 0, .int .u8 0, .int .u8 0, .int .u8 0, .int .u8 0] 25)) from by
    refine ⟨(H3.out.bt.below HB0.out (Nat.le_refl _) (by have := HSZ.out; omega)).alloc (by omega) _, (heap_alloc_old _ _ (by omega)).trans H3.out.row, (heap_alloc_old _ _ (by omega)).trans ((H3.out.bt.block _ (by omega) (by have := HSZ.out; omega)).trans HR.out), ?_, hO2⟩
    rw [bD_0, ← hO]
    exact heap_alloc_new _ _)
  clear H3 HR hw1
  go_wp2_with fail
  go_loopw [13] (fun i wr => ∃ k : Nat, k ≤ 32 ∧ i = .int .i64 k ∧ Hid (CN w O z n (bD (byt z) k) wr)) (fun i _ => 32 - (intOf i).toNat)
  case atStart => exact ⟨0, by omega, rfl, H4⟩
  case round =>
    obtain ⟨k, hk, rfl, H⟩ := hrel
    clear H4 hO
    have hk0 : (0 : Int) ≤ k := by omega
    by_cases hlt : k < 32
    · have hlt' : (k : Int) < 32 := by omega
      have HK := Lib.hid hlt
      go_wp2_with fail
      refine (kba k hlt _ H.out.rs).mono ?_
      rintro e u4 ⟨rfl, rfl⟩
      have HN := Lib.hid (bD_next (byt z) k)
      obtain ⟨y, hy⟩ : ∃ y, byt z k = y := ⟨_, rfl⟩
      rw [hy] at HN ⊢
      clear hy
      have co := (cell_of_row u4 _ k _ _ _ H.out.ro).trans (ar_at _ _ _ _ hlt)
      have fo := frozen_of_row _ _ k _ _ H.out.ro
      have H5 := H.out.set k HK.out y
      rw [HN.out] at H5
      have H6 := Lib.hid H5
      clear H5
      go_wp2_with fail
      go_roundw
      case rel => exact ⟨k + 1, by omega, by go_num, H6⟩
      case measure => simp [intOf]; omega
    · obtain rfl : k = 32 := by omega
      have hr := H.out.ro
      rw [bD_32] at hr
      have HB := Lib.hid (And.intro H.out.old (And.intro hr H.out.r1))
      clear hr H
      have HE := Lib.hid (show byt (kpm rcT 24 (xby (xby v n 1) 135 128)) = byt z from by rw [HZ.out])
      obtain ⟨y, hy⟩ : ∃ y, byt z = y := ⟨_, rfl⟩
      rw [hy] at HB HE
      clear hy
      go_wp2_with (first | (refine wpList_load_row rfl 25 _ rfl O rfl 25 _ (0, 0) _ HB.out.2.1 Tryd.underlying25 rfl (HI y).out ?_) | (refine wpList_store_row rfl 25 _ _ rfl (w.heap.size + 1) (ar .u8 32 y) rfl rfl 25 _ HB.out.2.2 (HI y).out (by rw [ar_size]; rfl) (ar_one _ _ _) ?_))
      refine bodyPost_ret (v := .agg (ar .u8 32 y)) (results_cell_row (p := 2) rfl _ _ (w.heap.size + 1) 25 _ (0, 0) _ rfl (setRow_heap _ _ _ _ _ _ HB.out.2.2) Tryd.underlying25 rfl (HI y).out) rfl ⟨by rw [HE.out], below_setRow HB.out.1 (by omega) _⟩
end Go.Proofs.YtcmpnnfnkcmpcaaDoor

/- What bailiwickref01.Word comes to, called with any slice of digits. -/
import Derived.Test.YthfadinocadhaaaDoorDg
import Derived.Test.YthfadinocadhaaaDoorShl
import Derived.Test.YthfadinocadhaaaDoorShiftNum
import Derived.Test.YthfadinocadhaaaDoorTail
import Derived.BigQuiet
import Derived.WalkSmall
namespace Go.Proofs.YthfadinocadhaaaDoor
open Go.RowKit

/-- Part p of the word of the first k digits. -/
def wpt (d : Nat → Nat) (p : Nat) : Nat → Nat
  | 0 => 0
  | k + 1 => wpt d p k + if k / 4 = p then d k * 2 ^ (16 * (k % 4)) else 0
/-- How many of the first k digits lie in part p. -/
def mm (p k : Nat) : Nat := min 4 (k - 4 * p)
theorem wpt_lt {d : Nat → Nat} (p : Nat) : ∀ k, (∀ j, j < k → d j < 65536) → wpt d p k < 2 ^ (16 * mm p k)
  | 0, _ => by simp [wpt, Nat.two_pow_pos]
  | k + 1, h => by
    have ih := wpt_lt p k (fun j hj => h j (by omega))
    have hd := h k (by omega)
    unfold wpt
    by_cases e : k / 4 = p
    · rw [if_pos e]
      have m0 : mm p k = k % 4 := by unfold mm; omega
      have m1 : mm p (k + 1) = k % 4 + 1 := by unfold mm; omega
      rw [m0] at ih
      rw [m1, show 16 * (k % 4 + 1) = 16 * (k % 4) + 16 by omega, Nat.pow_add]
      have h2 : d k * 2 ^ (16 * (k % 4)) ≤ 65535 * 2 ^ (16 * (k % 4)) := Nat.mul_le_mul_right _ (by omega)
      have e16 : (2 : Nat) ^ 16 = 65536 := by rfl
      rw [e16]
      omega
    · rw [if_neg e, Nat.add_zero]
      exact Nat.lt_of_lt_of_le ih (Nat.pow_le_pow_right (by omega) (by unfold mm; omega))
theorem wpt_64 {d : Nat → Nat} (p k : Nat) (h : ∀ j, j < k → d j < 65536) : wpt d p k < 18446744073709551616 := by
  refine Nat.lt_of_lt_of_le (wpt_lt p k h) ?_
  have e : 18446744073709551616 = 2 ^ 64 := by rfl
  rw [e]
  exact Nat.pow_le_pow_right (by omega) (by unfold mm; omega)
theorem wlow {d : Nat → Nat} {k p s : Nat} (hp : k / 4 = p) (hs : 16 * (k % 4) = s) (h : ∀ j, j < k → d j < 65536) : wpt d p k < 2 ^ s := by
  have := wpt_lt (d := d) p k h
  rwa [show mm p k = k % 4 by unfold mm; omega, hs] at this
theorem wpt_n4 {d : Nat → Nat} : ∀ k, k ≤ 16 → n4 (wpt d 0 k) (wpt d 1 k) (wpt d 2 k) (wpt d 3 k) = vd d k
  | 0, _ => rfl
  | k + 1, h => by
    have ih := wpt_n4 (d := d) k (by omega)
    have e : 65536 ^ k * d k = 2 ^ (64 * (k / 4)) * (d k * 2 ^ (16 * (k % 4))) := by
      rw [show (65536 : Nat) = 2 ^ 16 by rfl, ← Nat.pow_mul, show 16 * k = 64 * (k / 4) + 16 * (k % 4) by omega, Nat.pow_add, Nat.mul_assoc, Nat.mul_comm (2 ^ (16 * (k % 4)))]
    simp only [wpt, vd]
    rw [e, ← ih]
    generalize d k * 2 ^ (16 * (k % 4)) = y
    have c : k / 4 = 0 ∨ k / 4 = 1 ∨ k / 4 = 2 ∨ k / 4 = 3 := by omega
    rcases c with c | c | c | c
    · rw [c, show (2 : Nat) ^ (64 * 0) = 1 by rfl]; simp only [n4]; simp; omega
    · rw [c, show (2 : Nat) ^ (64 * 1) = 18446744073709551616 by rfl]; simp only [n4]; simp; omega
    · rw [c, show (2 : Nat) ^ (64 * 2) = 340282366920938463463374607431768211456 by rfl]; simp only [n4]; simp; omega
    · rw [c, show (2 : Nat) ^ (64 * 3) = 6277101735386680763835789423207666416102355444464034512896 by rfl]; simp only [n4]; simp; omega
theorem wpt_all {d : Nat → Nat} {K : Nat} (hK : K ≤ 16) (h : ∀ j, j < K → d j < 65536) : wpt d 0 K < 18446744073709551616 ∧ wpt d 1 K < 18446744073709551616 ∧ wpt d 2 K < 18446744073709551616 ∧ wpt d 3 K < 18446744073709551616 ∧ n4 (wpt d 0 K) (wpt d 1 K) (wpt d 2 K) (wpt d 3 K) = vd d K :=
  ⟨wpt_64 _ _ h, wpt_64 _ _ h, wpt_64 _ _ h, wpt_64 _ _ h, wpt_n4 K hK⟩

theorem or_up (x y s : Nat) (hx : x < 2 ^ s) (hy : y < 65536) (hs : s ≤ 48) : bits .or .u64 (x : Int) (IntKind.u64.wrap ((y : Int) * 2 ^ s)) = ((x + y * 2 ^ s : Nat) : Int) := by
  have h1 : 2 ^ s ≤ 2 ^ 48 := Nat.pow_le_pow_right (by omega) hs
  have h2 : y * 2 ^ s ≤ 65535 * 2 ^ 48 := Nat.mul_le_mul (by omega) h1
  have h3 : y * 2 ^ s < 18446744073709551616 := by omega
  have e : IntKind.u64.wrap ((y : Int) * 2 ^ s) = ((y * 2 ^ s : Nat) : Int) := by
    rw [IntKind.wrap_u64]
    have e0 : (y : Int) * 2 ^ s = ((y * 2 ^ s : Nat) : Int) := by simp
    rw [e0]
    omega
  rw [e, bits_or_u64_nat x (y * 2 ^ s) (by omega) h3]
  have := Nat.two_pow_add_eq_or_of_lt hx y
  rw [Nat.or_comm, Nat.mul_comm y, ← this, Nat.add_comm]

def rw4 (d : Nat → Nat) (k : Nat) : Array Value := #[.int .u64 (wpt d 0 k : Nat), .int .u64 (wpt d 1 k : Nat), .int .u64 (wpt d 2 k : Nat), .int .u64 (wpt d 3 k : Nat)]
theorem rw4_at (d : Nat → Nat) (k p : Nat) (h : p < 4) : (rw4 d k)[p]? = some (.int .u64 (wpt d p k : Nat)) := by
  have c : p = 0 ∨ p = 1 ∨ p = 2 ∨ p = 3 := by omega
  rcases c with rfl | rfl | rfl | rfl <;> rfl
theorem rw4_one (d : Nat → Nat) (k : Nat) : (rw4 d k).all (·.oneCell') = true := by
  simp [rw4, Value.oneCell']
theorem rw4_set (d : Nat → Nat) (k p s : Nat) (hk : k < 16) (hp : k / 4 = p) (hs : 16 * (k % 4) = s) : (rw4 d k).setIfInBounds p (.int .u64 ((wpt d p k + d k * 2 ^ s : Nat) : Int)) = rw4 d (k + 1) := by
  have c : p = 0 ∨ p = 1 ∨ p = 2 ∨ p = 3 := by omega
  subst hs
  rcases c with rfl | rfl | rfl | rfl <;> simp [rw4, wpt, hp]
theorem rw4_wv (d : Nat → Nat) (K : Nat) (hK : K ≤ 16) (h : ∀ j, j < K → d j < 65536) : Value.agg (rw4 d K) = wv (vd d K) := by
  obtain ⟨h0, h1, h2, h3, e⟩ := wpt_all hK h
  rw [← e, wv_n4 h0 h1 h2 h3]
  rfl
theorem heap2 (w : World) (A B : Obj) : ((w.alloc A).alloc B).heap[w.heap.size]? = some A ∧ ((w.alloc A).alloc B).heap[w.heap.size + 1]? = some B := ⟨heap_alloc2_old _ _ _, heap_alloc2_new _ _ _⟩

set_option maxRecDepth 100000 in
set_option maxHeartbeats 2000000 in
theorem word_walk (b cp n : Nat) (d : Nat → Nat) (hn : (n : Int) ≤ 1000000) (hd : ∀ j, j < n → d j < 65536) (w : World) (hD : Dg w b n d) :
    Calls Tryd.prog 61 #[.slice (some ⟨b, 0, none⟩) n cp] w fun e w' => e = .returned (.agg (rw4 d (min 16 n))) ∧ Below w.heap.size w w' := by
  have HD := Lib.hid hd; clear hd
  have HDG := Lib.hid hD; clear hD
  go_enter Tryd.func61, Tryd.ntmps61
  go_wp2
  go_loopw [4] (fun i wr => ∃ k : Nat, k ≤ min 16 n ∧ i = .int .i64 k ∧ Hid (wr.heap[w.heap.size]? = some (.cells (rw4 d 0) 24 (0, 0)) ∧ wr.heap[w.heap.size + 1]? = some (.cells (rw4 d k) 24 (0, 0)) ∧ Below w.heap.size w wr)) (fun i _ => 16 - (intOf i).toNat)
  case atStart => exact ⟨0, by omega, rfl, Lib.hid ⟨(heap2 _ _ _).1, (heap2 _ _ _).2, by go_grown⟩⟩
  case round =>
    obtain ⟨k, hk, rfl, H⟩ := hrel
    have hk0 : (0 : Int) ≤ k := by omega
    have hk1 : (k : Int) ≤ 16 := by omega
    by_cases hlt : k < min 16 n
    · have h16 : (k : Int) < 16 := by omega
      have hkn : (k : Int) < (n : Int) := by omega
      obtain ⟨p, hp⟩ : ∃ p : Nat, (k : Int) / 4 = (p : Int) := ⟨k / 4, by omega⟩
      obtain ⟨s, hs⟩ : ∃ s : Nat, 16 * ((k : Int) % 4) = (s : Int) := ⟨16 * (k % 4), by omega⟩
      have hp0 : (0 : Int) ≤ p := by omega
      have hp1 : (p : Int) < 4 := by omega
      have hs0 : (0 : Int) ≤ s := by omega
      have hs1 : (s : Int) < 64 := by omega
      have cd : wr.cell? ⟨b, k, none⟩ = some (.int .u64 (d k : Nat)) := (H.out.2.2.cell (p := ⟨b, k, none⟩) HDG.out.1).trans (HDG.out.2 k (by omega))
      have ca : wr.cell? ⟨w.heap.size + 1, p, none⟩ = some (.int .u64 (wpt d p k : Nat)) := (cell_of_row wr _ p _ _ _ H.out.2.1).trans (rw4_at d k p (by omega))
      have cf : wr.frozen? ⟨w.heap.size + 1, p, none⟩ = false := frozen_of_row wr _ p _ _ H.out.2.1
      have hv := or_up (wpt d p k) (d k) s (wlow (by omega) (by omega) (fun j hj => HD.out j (by omega))) (HD.out k (by omega)) (by omega)
      have HV := Lib.hid hv; clear hv
      go_wp2
      refine region_quiet_tail 17 (fun w' => ∃ n, w' = wr.drewN n) (by kernel_rfl) (by kernel_rfl) ⟨1, rfl⟩ ?_
      simp only [List.take_succ_cons, List.take_zero, List.drop_succ_cons, List.drop_zero]
      repeat (go_big_quiet_step (fail))
      with_reducible refine wpQuiet_nil ?_
      rintro _ ⟨nq, rfl⟩
      go_wp2
      go_roundw
      case rel =>
        refine ⟨k + 1, by omega, by go_num, Lib.hid ⟨(heap_setCell_other (wr.drewN nq) _ _ _ (by simp)).trans H.out.1, ?_, (below_drewN H.out.2.2 nq).setCell (by simp) _⟩⟩
        rw [HV.out, heap_setCell_same (wr.drewN nq) _ _ _ _ _ H.out.2.1, rw4_set d k p s (by omega) (by omega) (by omega)]
      case measure => simp [intOf]; omega
    · obtain rfl : k = min 16 n := by omega
      have hi : (Tryd.prog.info? 24).map (·.size) = some 4 := by kernel_rfl
      have HI := Lib.hid hi; clear hi
      generalize hK : min 16 n = K at *
      by_cases h16 : K = 16
      · have hx : decide ((K : Int) < 16) = false := by rw [decide_eq_false_iff_not]; omega
        have HK := Lib.hid hK; clear hK h16
        go_wp2_with (first | (refine wpList_load_row rfl 24 _ rfl (w.heap.size + 1) rfl 24 _ (0, 0) _ H.out.2.1 Tryd.underlying24 rfl HI.out ?_) | (refine wpList_store_row rfl 24 _ _ rfl w.heap.size (rw4 d K) rfl rfl 24 (rw4 d 0) H.out.1 HI.out rfl (rw4_one _ _) ?_))
        refine bodyPost_ret (v := .agg (rw4 d K)) (results_cell_row (p := 2) rfl _ _ w.heap.size 24 _ (0, 0) _ rfl (setRow_heap _ _ _ _ _ _ H.out.1) Tryd.underlying24 rfl HI.out) rfl ⟨by rw [HK.out], below_setRow H.out.2.2 (Nat.le_refl _) _⟩
      · have hx : decide ((K : Int) < 16) = true := by rw [decide_eq_true_iff]; omega
        have hy : decide (K < n) = false := by rw [decide_eq_false_iff_not]; omega
        have HK := Lib.hid hK; clear hK h16
        go_wp2_with (first | (refine wpList_load_row rfl 24 _ rfl (w.heap.size + 1) rfl 24 _ (0, 0) _ H.out.2.1 Tryd.underlying24 rfl HI.out ?_) | (refine wpList_store_row rfl 24 _ _ rfl w.heap.size (rw4 d K) rfl rfl 24 (rw4 d 0) H.out.1 HI.out rfl (rw4_one _ _) ?_))
        refine bodyPost_ret (v := .agg (rw4 d K)) (results_cell_row (p := 2) rfl _ _ w.heap.size 24 _ (0, 0) _ rfl (setRow_heap _ _ _ _ _ _ H.out.1) Tryd.underlying24 rfl HI.out) rfl ⟨by rw [HK.out], below_setRow H.out.2.2 (Nat.le_refl _) _⟩

theorem vd_low (d : Nat → Nat) (n : Nat) : ∀ m, n ≤ m → vd d m % 65536 ^ n = vd d n % 65536 ^ n := by
  intro m hm
  induction m with
  | zero => obtain rfl : n = 0 := by omega
            rfl
  | succ m ih =>
    by_cases e : n = m + 1
    · rw [e]
    · simp only [vd]
      rw [← ih (by omega)]
      have : 65536 ^ m * d m = 65536 ^ n * (65536 ^ (m - n) * d m) := by rw [← Nat.mul_assoc, ← Nat.pow_add, show n + (m - n) = m by omega]
      rw [this, Nat.add_mul_mod_self_left]

-- WHAT Word COMES TO.
theorem word_any (b cp n : Nat) (d : Nat → Nat) (hn : (n : Int) ≤ 1000000) (hd : ∀ j, j < n → d j < 65536) (w : World) (hD : Dg w b n d) :
    Calls Tryd.prog 61 #[.slice (some ⟨b, 0, none⟩) n cp] w fun e w' => e = .returned (wv (vd d n)) ∧ Below w.heap.size w w' := by
  have h := word_walk b cp n d hn hd w hD
  rw [rw4_wv d (min 16 n) (by omega) (fun j hj => hd j (by omega))] at h
  by_cases h16 : n ≤ 16
  · rw [Nat.min_eq_right h16] at h
    exact h
  · rw [Nat.min_eq_left (by omega)] at h
    have e : wv (vd d 16) = wv (vd d n) := wv_congr (vd_low d 16 n (by omega)).symm
    rw [e] at h
    exact h
end Go.Proofs.YthfadinocadhaaaDoor

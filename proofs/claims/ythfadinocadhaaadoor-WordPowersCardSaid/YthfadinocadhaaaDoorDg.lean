/- Slices of digits of 16 bits, their numbers; what bailiwickref01.Digits comes to, called with any word in any world. -/
import Derived.Test.YthfadinocadhaaaDoorBytes
import Derived.Laws.Bits64b
import Derived.Laws.OwnMore
import Derived.Deep.AppendLies
namespace Go.Proofs.YthfadinocadhaaaDoor
open Go.RowKit

/-- The number of n digits of 16 bits. -/
def vd (d : Nat → Nat) : Nat → Nat
  | 0 => 0
  | n + 1 => vd d n + 65536 ^ n * d n
theorem vd_congr {d e : Nat → Nat} {n : Nat} (h : ∀ j, j < n → d j = e j) : vd d n = vd e n := by
  induction n with
  | zero => rfl
  | succ n ih => simp only [vd]; rw [ih (fun j hj => h j (by omega)), h n (by omega)]
theorem vd_lt {d : Nat → Nat} {n : Nat} (h : ∀ j, j < n → d j < 65536) : vd d n < 65536 ^ n := by
  induction n with
  | zero => simp [vd]
  | succ n ih =>
    have h1 := ih (fun j hj => h j (by omega))
    have h2 : 65536 ^ n * d n ≤ 65536 ^ n * 65535 := Nat.mul_le_mul_left _ (by have := h n (by omega); omega)
    simp only [vd]
    rw [Nat.pow_succ]
    omega
theorem vd_mod (X n : Nat) : vd (fun j => X / 65536 ^ j % 65536) n = X % 65536 ^ n := by
  induction n with
  | zero => simp [vd, Nat.mod_one]
  | succ n ih => simp only [vd]; rw [ih, Nat.pow_succ, Nat.mod_mul]
/-- Digits, and noughts behind them. -/
def pad (d : Nat → Nat) (n j : Nat) : Nat := if j < n then d j else 0
theorem vd_pad (d : Nat → Nat) (n k : Nat) (h : n ≤ k) : vd (pad d n) k = vd d n := by
  induction k with
  | zero =>
    obtain rfl : n = 0 := by omega
    rfl
  | succ k ih =>
    by_cases e : n = k + 1
    · subst e; exact vd_congr (fun j hj => by simp [pad, hj])
    · simp only [vd]
      rw [ih (by omega), show pad d n k = 0 by simp [pad]; omega]
      simp

/-- Digits as cells. -/
def dl (d : Nat → Nat) (n : Nat) : List Value := (List.range n).map fun j => .int .u64 (d j : Nat)
theorem dl_len (d : Nat → Nat) (n : Nat) : (dl d n).length = n := by simp [dl]
theorem dl_at (d : Nat → Nat) (n j : Nat) (h : j < n) : (dl d n)[j]? = some (.int .u64 (d j : Nat)) := by simp [dl, h]
/-- One digit more. -/
def upd (d : Nat → Nat) (k y j : Nat) : Nat := if j = k then y else d j
theorem dl_snoc (d : Nat → Nat) (k y : Nat) : dl d k ++ [.int .u64 (y : Nat)] = dl (upd d k y) (k + 1) := by
  unfold dl
  rw [List.range_succ, List.map_append]
  congr 1
  · apply List.map_congr_left
    intro j hj
    have : j < k := by simpa using hj
    simp [upd, show ¬ j = k by omega]
  · simp [upd]
theorem upd_lt {d : Nat → Nat} {k y : Nat} (h : ∀ j, j < k → d j < 65536) (hy : y < 65536) : ∀ j, j < k + 1 → upd d k y j < 65536 := fun j hj => by
  unfold upd
  by_cases e : j = k
  · simp [e, hy]
  · simp only [e, if_false]; exact h j (by omega)
theorem vd_upd (d : Nat → Nat) (k y : Nat) : vd (upd d k y) (k + 1) = vd d k + 65536 ^ k * y := by
  simp only [vd]
  rw [vd_congr (d := upd d k y) (e := d) (fun j hj => by simp [upd, show ¬ j = k by omega])]
  simp [upd]

/-- A slice of digits that lies in block b. -/
def Dg (w : World) (b n : Nat) (d : Nat → Nat) : Prop := b < w.heap.size ∧ ∀ j, j < n → w.cell? ⟨b, j, none⟩ = some (.int .u64 (d j : Nat))
theorem Dg.below {w w' : World} {b n : Nat} {d : Nat → Nat} (h : Dg w b n d) (hb : Below w.heap.size w w') : Dg w' b n d :=
  ⟨Nat.lt_of_lt_of_le h.1 hb.size, fun j hj => (hb.cell (p := ⟨b, j, none⟩) h.1).trans (h.2 j hj)⟩
/-- What a call that makes n digits leaves, their number V. -/
def MkDg (n V : Nat) (w : World) (e : Ending) (w' : World) : Prop :=
  ∃ (b cap : Nat) (d : Nat → Nat), e = .returned (.slice (some ⟨b, 0, none⟩) n cap) ∧ w.heap.size ≤ b ∧ Dg w' b n d ∧ (∀ j, j < n → d j < 65536) ∧ vd d n = V ∧ Below w.heap.size w w'

theorem info22 : (Tryd.prog.info? 22).map (fun i => (i.zero, i.size, i.bytes)) = some (some (.int .u64 0), 1, 8) := by kernel_rfl

/-- What a round that appends one digit leaves. -/
theorem push_rel {w wr w1 : World} {base : Nat} {v v' X : Value} {k y : Nat} {ns : Nat → Nat} (hown : wr.ownsRow base 22 1 v k (dl ns k)) (hb : Below base w wr) (hsz : base ≤ wr.heap.size)
    (hown' : w1.ownsRow base 22 1 v' (k + 1) (dl ns k ++ [.int .u64 (y : Nat)])) (hgrow : (wr.alloc (.cells #[X] 22)).grownBy w1 v.ownBlock) :
    w1.ownsRow base 22 1 v' (k + 1) (dl (upd ns k y) (k + 1)) ∧ Below base w w1 := by
  rw [dl_snoc] at hown'
  exact ⟨hown', (hb.alloc hsz _).grown hgrow (by simp; omega) (fun j hj => (hown.lt j hj).1)⟩

theorem made_of {w w' : World} {base : Nat} {v : Value} {n : Nat} {d : Nat → Nat} (hbs : w.heap.size ≤ base) (h : w'.ownsRow base 22 1 v n (dl d n)) (hn : 0 < n) (hd : ∀ j, j < n → d j < 65536) (hb : Below w.heap.size w w') : MkDg n (vd d n) w (.returned v) w' := by
  obtain ⟨hl, h1⟩ := h
  rcases h1 with ⟨-, h0⟩ | ⟨g, cap, cur, rfl, hg, hc, hnc, hm, hcs, ht⟩
  · omega
  · refine ⟨g, cap, d, rfl, Nat.le_trans hbs hg, ⟨(Array.getElem?_eq_some_iff.1 hc).1, fun j hj => ?_⟩, hd, rfl, hb⟩
    rw [cell_of_row _ _ _ _ _ _ hc, ← dl_at d n j hj, ← ht]
    simp only [Nat.mul_one, List.getElem?_take, hj, if_true]
    simp

theorem and_low16 (z : Nat) (h : z < 18446744073709551616) : bits .and .u64 z 65535 = ((z % 65536 : Nat) : Int) := by
  have := bits_and_u64_nat z 65535 h (by omega)
  rw [show z &&& 65535 = z % 65536 from Nat.and_two_pow_sub_one_eq_mod z 16] at this
  exact this

theorem dg_of (x k p s : Nat) (hp : k / 4 = p) (hs : 16 * (k % 4) = s) : pN x p / 2 ^ s % 65536 = x % 115792089237316195423570985008687907853269984665640564039457584007913129639936 / 65536 ^ k % 65536 := by
  subst hp hs
  unfold pN
  have e : 18446744073709551616 = 2 ^ (16 * (k % 4)) * 2 ^ (64 - 16 * (k % 4)) := by rw [← Nat.pow_add, show 16 * (k % 4) + (64 - 16 * (k % 4)) = 64 by omega]
  have e2 : (65536 : Nat) = 2 ^ 16 := by rfl
  rw [e, Nat.mod_mul_right_div_self, e2, Nat.mod_mod_of_dvd _ (Nat.pow_dvd_pow 2 (by omega)), Nat.div_div_eq_div_mul, ← Nat.pow_add, ← Nat.pow_mul, show 64 * (k / 4) + 16 * (k % 4) = 16 * k by omega]

set_option maxRecDepth 100000 in
set_option maxHeartbeats 1000000 in
theorem digits_walk (x a0 a1 a2 a3 : Nat) (hp : ∀ p, p < 4 → (#[Value.int .u64 a0, .int .u64 a1, .int .u64 a2, .int .u64 a3] : Array Value)[p]? = some (.int .u64 (pN x p : Nat))) (w : World) :
    Calls Tryd.prog 63 #[.agg #[.int .u64 a0, .int .u64 a1, .int .u64 a2, .int .u64 a3]] w (MkDg 16 (x % 115792089237316195423570985008687907853269984665640564039457584007913129639936) w) := by
  have HP := Lib.hid hp; clear hp
  obtain ⟨i0, hi, hz0, hz1, hz2⟩ := info_parts info22
  go_enter Tryd.func63, Tryd.ntmps63
  go_wp2
  go_loopw [3, 4] (fun v i wr => ∃ k : Nat, k ≤ 16 ∧ i = .int .i64 k ∧ Hid (wr.ownsRow (w.heap.size + 1) 22 1 v k (dl (fun j => x % 115792089237316195423570985008687907853269984665640564039457584007913129639936 / 65536 ^ j % 65536) k) ∧ Below (w.heap.size + 1) (w.alloc (.cells #[Value.int .u64 a0, .int .u64 a1, .int .u64 a2, .int .u64 a3] 24)) wr))
    (fun _ i _ => 16 - (intOf i).toNat)
  case atStart =>
    refine ⟨0, by omega, rfl, Lib.hid ⟨?_, by go_grown⟩⟩
    have h := World.ownsRow_made (base := w.heap.size + 1) (e := 22) (size := 1) (w.alloc (.cells #[Value.int .u64 a0, .int .u64 a1, .int .u64 a2, .int .u64 a3] 24)) #[] 0 (by simp) (by decide) (by simp)
    rw [World.size_alloc] at h
    exact h
  case round =>
    obtain ⟨k, hk, rfl, H⟩ := hrel
    have hk0 : (0 : Int) ≤ k := by omega
    have hk1 : (k : Int) ≤ 16 := by omega
    by_cases hlt : k < 16
    · obtain ⟨p, hp⟩ : ∃ p : Nat, (k : Int) / 4 = (p : Int) := ⟨k / 4, by omega⟩
      obtain ⟨s, hs⟩ : ∃ s : Nat, 16 * ((k : Int) % 4) = (s : Int) := ⟨16 * (k % 4), by omega⟩
      have hp0 : (0 : Int) ≤ p := by omega
      have hp1 : (p : Int) < 4 := by omega
      have hs0 : (0 : Int) ≤ s := by omega
      have hs1 : (s : Int) < 64 := by omega
      have ca : wr.cell? ⟨w.heap.size, p, none⟩ = some (.int .u64 (pN x p : Nat)) := (H.out.2.cell (p := ⟨w.heap.size, p, none⟩) (Nat.lt_succ_self _)).trans ((cell_of_row _ _ p _ _ _ (heap_alloc_new w _)).trans (HP.out p (by omega)))
      have hpl := pN_le x p
      have hv : bits .and .u64 (((pN x p : Nat) : Int) / 2 ^ s) 65535 = ((x % 115792089237316195423570985008687907853269984665640564039457584007913129639936 / 65536 ^ k % 65536 : Nat) : Int) := by
        rw [← dg_of x k p s (by omega) (by omega)]
        have h := and_low16 (pN x p / 2 ^ s) (Nat.lt_of_le_of_lt (Nat.div_le_self _ _) hpl)
        simpa using h
      have HV := Lib.hid hv; clear hv
      go_wp2_with (at_builtin; refine wpList_append_own _ rfl _ _ 51 rfl (w.heap.size + 1) 22 i0 (.int .u64 0) 1 8 Tryd.underlying51 hi hz0 hz1 hz2 rfl (by decide) _ _ _ rfl (H.out.1.alloc _) ⟨wr.heap.size, 0, none⟩ 1 1 [.int .u64 (bits .and .u64 (((pN x p : Nat) : Int) / 2 ^ s) 65535)] rfl rfl ?c1 ?c2 ?c3 ?c4 ?c5 ?_)
      case c1 => exact cell_one_new _ _ _
      case c2 => intro u hu; simp at hu; subst hu; rfl
      case c3 => unfold maxLen; omega
      case c4 => omega
      case c5 => have := H.out.2.size; simp at this; simp; omega
      intro v' w1 hown' hgrow _
      rw [HV.out] at hown'
      have HN := Lib.hid (push_rel H.out.1 H.out.2 (by have := H.out.2.size; simp at this; omega) hown' hgrow)
      clear hown' hgrow
      go_wp2
      go_roundw
      case rel =>
        refine ⟨k + 1, by omega, by go_num, Lib.hid ⟨?_, HN.out.2⟩⟩
        have e : dl (upd (fun j => x % 115792089237316195423570985008687907853269984665640564039457584007913129639936 / 65536 ^ j % 65536) k (x % 115792089237316195423570985008687907853269984665640564039457584007913129639936 / 65536 ^ k % 65536)) (k + 1) = dl (fun j => x % 115792089237316195423570985008687907853269984665640564039457584007913129639936 / 65536 ^ j % 65536) (k + 1) := by
          unfold dl; apply List.map_congr_left; intro j _; unfold upd; by_cases h : j = k <;> simp [h]
        rw [← e]; exact HN.out.1
      case measure => simp [intOf]; omega
    · obtain rfl : k = 16 := by omega
      go_wp2
      go_ret
      have R := made_of (w := w) (by omega) H.out.1 (by omega) (fun j _ => by omega) (Below.trans (by go_grown) (H.out.2.mono (by omega)))
      rw [vd_mod] at R
      rw [show x % 115792089237316195423570985008687907853269984665640564039457584007913129639936 % 65536 ^ 16 = x % 115792089237316195423570985008687907853269984665640564039457584007913129639936 from Nat.mod_mod _ _] at R
      exact R

-- WHAT Digits COMES TO.
theorem digits_any (x : Nat) (w : World) : Calls Tryd.prog 63 #[wv x] w (MkDg 16 (x % 115792089237316195423570985008687907853269984665640564039457584007913129639936) w) := by
  refine digits_walk x _ _ _ _ (fun p hp => ?_) w
  have h : p = 0 ∨ p = 1 ∨ p = 2 ∨ p = 3 := by omega
  rcases h with rfl | rfl | rfl | rfl
  · simp [pN]
  · simp [pN]; omega
  · simp [pN]; omega
  · simp [pN]; omega
end Go.Proofs.YthfadinocadhaaaDoor

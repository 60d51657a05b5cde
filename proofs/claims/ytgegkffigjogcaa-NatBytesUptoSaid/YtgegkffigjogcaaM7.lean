/- What bailiwickref01.Divide comes to: the walk. (With it, merged: Less · Minus · Prod · RDivNum · RDiv.) -/
import Derived.Test.YtgegkffigjogcaaM1
import Derived.Test.YtgegkffigjogcaaM6
import Derived.BigQuiet
import Derived.WalkSmall
import Derived.OwnWalk
namespace Go.Proofs.Ytgegkffigjogcaa
open Go.RowKit

theorem vd_ge (d : Nat → Nat) (k : Nat) : 65536 ^ k * d k ≤ vd d (k + 1) := by simp only [vd]; omega
/-- The highest digit that parts two numbers decides. -/
theorem less_top {a b : Nat → Nat} {k : Nat} (ha : ∀ j, j < k → a j < 65536) (_hb : ∀ j, j < k → b j < 65536) (h : a k < b k) : vd a (k + 1) < vd b (k + 1) := by
  have h1 := vd_lt ha
  simp only [vd]
  have h2 : 65536 ^ k * a k + 65536 ^ k ≤ 65536 ^ k * b k := by
    have := Nat.mul_le_mul_left (65536 ^ k) (show a k + 1 ≤ b k by omega)
    rwa [Nat.mul_add, Nat.mul_one] at this
  omega
theorem vd_same_above {a b : Nat → Nat} (k : Nat) : ∀ N, k ≤ N → (∀ j, k ≤ j → j < N → a j = b j) → vd a N + vd b k = vd b N + vd a k := by
  intro N hN h
  induction N with
  | zero => obtain rfl : k = 0 := by omega
            rfl
  | succ N ih =>
    by_cases e : k = N + 1
    · subst e; omega
    · have := ih (by omega) (fun j h1 h2 => h j h1 (by omega))
      simp only [vd]
      rw [h N (by omega) (by omega)]
      omega

set_option maxRecDepth 100000 in
set_option maxHeartbeats 4000000 in
theorem less_any (ba ca bb cb n m : Nat) (da db : Nat → Nat) (hn : (n : Int) ≤ 4000000) (hm : (m : Int) ≤ 4000000) (ha : ∀ j, j < n → da j < 65536) (hb : ∀ j, j < m → db j < 65536) (w : World) (hA : Dg w ba n da) (hB : Dg w bb m db) :
    Calls Try.prog 64 #[.slice (some ⟨ba, 0, none⟩) n ca, .slice (some ⟨bb, 0, none⟩) m cb] w fun e w' => e = .returned (.bool (decide (vd da n < vd db m))) ∧ w = w' := by
  have en := vd_pad da n (max n m) (by omega)
  have em := vd_pad db m (max n m) (by omega)
  rw [← en, ← em]
  clear en em
  have Pa : Hid (∀ j, pad da n j < 65536) := Lib.hid (fun j => by unfold pad; split; exact ha j (by omega); omega)
  have Pb : Hid (∀ j, pad db m j < 65536) := Lib.hid (fun j => by unfold pad; split; exact hb j (by omega); omega)
  have Ha := Lib.hid ha; clear ha
  have Hb := Lib.hid hb; clear hb
  have HA := Lib.hid hA; clear hA
  have HB := Lib.hid hB; clear hB
  have hn0 : (0 : Int) ≤ n := by omega
  have hm0 : (0 : Int) ≤ m := by omega
  obtain ⟨R, hR⟩ : ∃ R, decide (vd (pad da n) (max n m) < vd (pad db m) (max n m)) = R := ⟨_, rfl⟩
  rw [hR]
  have HR := Lib.hid hR; clear hR
  by_cases hnm : n < m
  · have hcmp : (n : Int) < (m : Int) := by omega
    obtain ⟨N, hN⟩ : ∃ N, max n m = N := ⟨_, rfl⟩
    have HN := Lib.hid hN; clear hN
    go_enter Try.func64, Try.ntmps64
    go_wp2
    go_loop [6] (fun i => ∃ k : Nat, k ≤ N ∧ i = .int .i64 ((k : Int) - 1) ∧ Hid (∀ j, k ≤ j → j < N → pad da n j = pad db m j)) (fun i => (intOf i + 1).toNat)
    case atStart => exact ⟨N, Nat.le_refl _, by have := HN.out; first | (rw [show N = m by omega]) | rfl, Lib.hid (fun j h1 h2 => by omega)⟩
    case round =>
      obtain ⟨k, hk, rfl, HE⟩ := hrel
      have hNb : N ≤ 4000000 := by have := HN.out; omega
      have hk1 : (k : Int) ≤ 4000000 := by omega
      rcases k with _ | k
      · go_wp2
        go_ret
        refine ⟨?_, rfl⟩
        rw [← HR.out, HN.out]
        have h := vd_same_above 0 N (Nat.zero_le _) (fun j _ h2 => HE.out j (Nat.zero_le _) h2)
        simp only [vd] at h
        rw [show decide (vd (pad da n) N < vd (pad db m) N) = false by rw [decide_eq_false_iff_not]; omega]
        rfl
      · have e1 : ((k + 1 : Nat) : Int) - 1 = (k : Int) := by omega
        rw [e1]
        have hk0 : (0 : Int) ≤ k := by omega
        have hk2 : (k : Int) ≤ 4000000 := by omega
        have hge : ∀ (x y : Nat), pad da n k = x → pad db m k = y → x ≠ y → R = decide (x < y) := fun x y hx hy hne => by
          rw [← HR.out, HN.out]
          have h := vd_same_above (k + 1) N (by omega) (fun j h1 h2 => HE.out j h1 h2)
          by_cases hlt : x < y
          · have := less_top (a := pad da n) (b := pad db m) (k := k) (fun j _ => Pa.out j) (fun j _ => Pb.out j) (by rw [hx, hy]; exact hlt)
            rw [decide_eq_true hlt, decide_eq_true (by omega)]
          · have := less_top (a := pad db m) (b := pad da n) (k := k) (fun j _ => Pb.out j) (fun j _ => Pa.out j) (by rw [hx, hy]; omega)
            rw [decide_eq_false hlt, decide_eq_false (by omega)]
        have HG := Lib.hid hge; clear hge e1
        by_cases h1 : k < n
        · by_cases h2 : k < m
          · have xa : w.cell? ⟨ba, k, none⟩ = some (.int .u64 (da k : Nat)) := HA.out.2 k (by omega)
            have hka : (k : Int) < (n : Int) := by omega
            have pa : pad da n k = da k := by unfold pad; rw [if_pos (by omega)]
            have xb : w.cell? ⟨bb, k, none⟩ = some (.int .u64 (db k : Nat)) := HB.out.2 k (by omega)
            have hkb : (k : Int) < (m : Int) := by omega
            have pb : pad db m k = db k := by unfold pad; rw [if_pos (by omega)]
            have PA := Lib.hid pa; clear pa
            have PB := Lib.hid pb; clear pb
            by_cases he : da k = db k
            · have hb1 : (((da k : Nat) : Int) == ((db k : Nat) : Int)) = true := by simp; omega
              have hb2 : (((da k : Nat) : Int) != ((db k : Nat) : Int)) = false := by simp; omega
              have HE2 := Lib.hid he; clear he
              go_wp2
              go_round
              case rel =>
                refine ⟨k, by omega, rfl, Lib.hid (fun j h1 h2 => ?_)⟩
                by_cases hj : j = k
                · subst hj; rw [PA.out, PB.out, HE2.out]
                · exact HE.out j (by omega) h2
              case measure => simp [intOf]
            · have hb1 : (((da k : Nat) : Int) == ((db k : Nat) : Int)) = false := by simp; omega
              have hb2 : (((da k : Nat) : Int) != ((db k : Nat) : Int)) = true := by simp; omega
              have hr := HG.out _ _ PA.out PB.out he
              have HRR := Lib.hid hr; clear hr he
              go_wp2
              go_ret
              refine ⟨?_, rfl⟩
              rw [HRR.out]
              try simp
          · have xa : w.cell? ⟨ba, k, none⟩ = some (.int .u64 (da k : Nat)) := HA.out.2 k (by omega)
            have hka : (k : Int) < (n : Int) := by omega
            have pa : pad da n k = da k := by unfold pad; rw [if_pos (by omega)]
            have hkb : ¬ (k : Int) < (m : Int) := by omega
            have pb : pad db m k = 0 := by unfold pad; rw [if_neg (by omega)]
            have PA := Lib.hid pa; clear pa
            have PB := Lib.hid pb; clear pb
            by_cases he : da k = 0
            · have hb1 : (((da k : Nat) : Int) == (0 : Int)) = true := by simp; omega
              have hb2 : (((da k : Nat) : Int) != (0 : Int)) = false := by simp; omega
              have HE2 := Lib.hid he; clear he
              go_wp2
              go_round
              case rel =>
                refine ⟨k, by omega, rfl, Lib.hid (fun j h1 h2 => ?_)⟩
                by_cases hj : j = k
                · subst hj; rw [PA.out, PB.out, HE2.out]
                · exact HE.out j (by omega) h2
              case measure => simp [intOf]
            · have hb1 : (((da k : Nat) : Int) == (0 : Int)) = false := by simp; omega
              have hb2 : (((da k : Nat) : Int) != (0 : Int)) = true := by simp; omega
              have hr := HG.out _ _ PA.out PB.out he
              have HRR := Lib.hid hr; clear hr he
              go_wp2
              go_ret
              refine ⟨?_, rfl⟩
              rw [HRR.out]
              try simp
        · have h2 : k < m := by have := HN.out; omega
          have hka : ¬ (k : Int) < (n : Int) := by omega
          have pa : pad da n k = 0 := by unfold pad; rw [if_neg (by omega)]
          have xb : w.cell? ⟨bb, k, none⟩ = some (.int .u64 (db k : Nat)) := HB.out.2 k (by omega)
          have hkb : (k : Int) < (m : Int) := by omega
          have pb : pad db m k = db k := by unfold pad; rw [if_pos (by omega)]
          have PA := Lib.hid pa; clear pa
          have PB := Lib.hid pb; clear pb
          by_cases he : 0 = db k
          · have hb1 : ((0 : Int) == ((db k : Nat) : Int)) = true := by simp; omega
            have hb2 : ((0 : Int) != ((db k : Nat) : Int)) = false := by simp; omega
            have HE2 := Lib.hid he; clear he
            go_wp2
            go_round
            case rel =>
              refine ⟨k, by omega, rfl, Lib.hid (fun j h1 h2 => ?_)⟩
              by_cases hj : j = k
              · subst hj; rw [PA.out, PB.out, HE2.out]
              · exact HE.out j (by omega) h2
            case measure => simp [intOf]
          · have hb1 : ((0 : Int) == ((db k : Nat) : Int)) = false := by simp; omega
            have hb2 : ((0 : Int) != ((db k : Nat) : Int)) = true := by simp; omega
            have hr := HG.out _ _ PA.out PB.out he
            have HRR := Lib.hid hr; clear hr he
            go_wp2
            go_ret
            refine ⟨?_, rfl⟩
            rw [HRR.out]
            try simp
  · have hcmp : ¬ (n : Int) < (m : Int) := by omega
    obtain ⟨N, hN⟩ : ∃ N, max n m = N := ⟨_, rfl⟩
    have HN := Lib.hid hN; clear hN
    go_enter Try.func64, Try.ntmps64
    go_wp2
    go_loop [6] (fun i => ∃ k : Nat, k ≤ N ∧ i = .int .i64 ((k : Int) - 1) ∧ Hid (∀ j, k ≤ j → j < N → pad da n j = pad db m j)) (fun i => (intOf i + 1).toNat)
    case atStart => exact ⟨N, Nat.le_refl _, by have := HN.out; first | (rw [show N = n by omega]) | rfl, Lib.hid (fun j h1 h2 => by omega)⟩
    case round =>
      obtain ⟨k, hk, rfl, HE⟩ := hrel
      have hNb : N ≤ 4000000 := by have := HN.out; omega
      have hk1 : (k : Int) ≤ 4000000 := by omega
      rcases k with _ | k
      · go_wp2
        go_ret
        refine ⟨?_, rfl⟩
        rw [← HR.out, HN.out]
        have h := vd_same_above 0 N (Nat.zero_le _) (fun j _ h2 => HE.out j (Nat.zero_le _) h2)
        simp only [vd] at h
        rw [show decide (vd (pad da n) N < vd (pad db m) N) = false by rw [decide_eq_false_iff_not]; omega]
        rfl
      · have e1 : ((k + 1 : Nat) : Int) - 1 = (k : Int) := by omega
        rw [e1]
        have hk0 : (0 : Int) ≤ k := by omega
        have hk2 : (k : Int) ≤ 4000000 := by omega
        have hge : ∀ (x y : Nat), pad da n k = x → pad db m k = y → x ≠ y → R = decide (x < y) := fun x y hx hy hne => by
          rw [← HR.out, HN.out]
          have h := vd_same_above (k + 1) N (by omega) (fun j h1 h2 => HE.out j h1 h2)
          by_cases hlt : x < y
          · have := less_top (a := pad da n) (b := pad db m) (k := k) (fun j _ => Pa.out j) (fun j _ => Pb.out j) (by rw [hx, hy]; exact hlt)
            rw [decide_eq_true hlt, decide_eq_true (by omega)]
          · have := less_top (a := pad db m) (b := pad da n) (k := k) (fun j _ => Pb.out j) (fun j _ => Pa.out j) (by rw [hx, hy]; omega)
            rw [decide_eq_false hlt, decide_eq_false (by omega)]
        have HG := Lib.hid hge; clear hge e1
        by_cases h1 : k < n
        · by_cases h2 : k < m
          · have xa : w.cell? ⟨ba, k, none⟩ = some (.int .u64 (da k : Nat)) := HA.out.2 k (by omega)
            have hka : (k : Int) < (n : Int) := by omega
            have pa : pad da n k = da k := by unfold pad; rw [if_pos (by omega)]
            have xb : w.cell? ⟨bb, k, none⟩ = some (.int .u64 (db k : Nat)) := HB.out.2 k (by omega)
            have hkb : (k : Int) < (m : Int) := by omega
            have pb : pad db m k = db k := by unfold pad; rw [if_pos (by omega)]
            have PA := Lib.hid pa; clear pa
            have PB := Lib.hid pb; clear pb
            by_cases he : da k = db k
            · have hb1 : (((da k : Nat) : Int) == ((db k : Nat) : Int)) = true := by simp; omega
              have hb2 : (((da k : Nat) : Int) != ((db k : Nat) : Int)) = false := by simp; omega
              have HE2 := Lib.hid he; clear he
              go_wp2
              go_round
              case rel =>
                refine ⟨k, by omega, rfl, Lib.hid (fun j h1 h2 => ?_)⟩
                by_cases hj : j = k
                · subst hj; rw [PA.out, PB.out, HE2.out]
                · exact HE.out j (by omega) h2
              case measure => simp [intOf]
            · have hb1 : (((da k : Nat) : Int) == ((db k : Nat) : Int)) = false := by simp; omega
              have hb2 : (((da k : Nat) : Int) != ((db k : Nat) : Int)) = true := by simp; omega
              have hr := HG.out _ _ PA.out PB.out he
              have HRR := Lib.hid hr; clear hr he
              go_wp2
              go_ret
              refine ⟨?_, rfl⟩
              rw [HRR.out]
              try simp
          · have xa : w.cell? ⟨ba, k, none⟩ = some (.int .u64 (da k : Nat)) := HA.out.2 k (by omega)
            have hka : (k : Int) < (n : Int) := by omega
            have pa : pad da n k = da k := by unfold pad; rw [if_pos (by omega)]
            have hkb : ¬ (k : Int) < (m : Int) := by omega
            have pb : pad db m k = 0 := by unfold pad; rw [if_neg (by omega)]
            have PA := Lib.hid pa; clear pa
            have PB := Lib.hid pb; clear pb
            by_cases he : da k = 0
            · have hb1 : (((da k : Nat) : Int) == (0 : Int)) = true := by simp; omega
              have hb2 : (((da k : Nat) : Int) != (0 : Int)) = false := by simp; omega
              have HE2 := Lib.hid he; clear he
              go_wp2
              go_round
              case rel =>
                refine ⟨k, by omega, rfl, Lib.hid (fun j h1 h2 => ?_)⟩
                by_cases hj : j = k
                · subst hj; rw [PA.out, PB.out, HE2.out]
                · exact HE.out j (by omega) h2
              case measure => simp [intOf]
            · have hb1 : (((da k : Nat) : Int) == (0 : Int)) = false := by simp; omega
              have hb2 : (((da k : Nat) : Int) != (0 : Int)) = true := by simp; omega
              have hr := HG.out _ _ PA.out PB.out he
              have HRR := Lib.hid hr; clear hr he
              go_wp2
              go_ret
              refine ⟨?_, rfl⟩
              rw [HRR.out]
              try simp
        · have h2 : k < m := by have := HN.out; omega
          have hka : ¬ (k : Int) < (n : Int) := by omega
          have pa : pad da n k = 0 := by unfold pad; rw [if_neg (by omega)]
          have xb : w.cell? ⟨bb, k, none⟩ = some (.int .u64 (db k : Nat)) := HB.out.2 k (by omega)
          have hkb : (k : Int) < (m : Int) := by omega
          have pb : pad db m k = db k := by unfold pad; rw [if_pos (by omega)]
          have PA := Lib.hid pa; clear pa
          have PB := Lib.hid pb; clear pb
          by_cases he : 0 = db k
          · have hb1 : ((0 : Int) == ((db k : Nat) : Int)) = true := by simp; omega
            have hb2 : ((0 : Int) != ((db k : Nat) : Int)) = false := by simp; omega
            have HE2 := Lib.hid he; clear he
            go_wp2
            go_round
            case rel =>
              refine ⟨k, by omega, rfl, Lib.hid (fun j h1 h2 => ?_)⟩
              by_cases hj : j = k
              · subst hj; rw [PA.out, PB.out, HE2.out]
              · exact HE.out j (by omega) h2
            case measure => simp [intOf]
          · have hb1 : ((0 : Int) == ((db k : Nat) : Int)) = false := by simp; omega
            have hb2 : ((0 : Int) != ((db k : Nat) : Int)) = true := by simp; omega
            have hr := HG.out _ _ PA.out PB.out he
            have HRR := Lib.hid hr; clear hr he
            go_wp2
            go_ret
            refine ⟨?_, rfl⟩
            rw [HRR.out]
            try simp
end Go.Proofs.Ytgegkffigjogcaa
namespace Go.Proofs.Ytgegkffigjogcaa
open Go.RowKit

def MinRel (w : World) (_n m k c : Nat) (da db : Nat → Nat) (v : Value) (wr : World) : Prop :=
  c ≤ 1 ∧ ∃ ns : Nat → Nat, wr.ownsRow w.heap.size 59 1 v k (dl ns k) ∧ (∀ j, j < k → ns j < 65536) ∧ vd ns k + vd (pad db m) k = vd da k + 65536 ^ k * c ∧ Below w.heap.size w wr ∧ w.heap.size < wr.heap.size
theorem min_step {P N B A c d bk ak c' : Nat} (h : N + B = A + P * c) (h1 : d + (c + bk) = ak + 65536 * c') : N + P * d + (B + P * bk) = A + P * ak + P * 65536 * c' := by
  have e := congrArg (P * ·) h1
  simp only [Nat.mul_add] at e
  rw [← Nat.mul_assoc] at e
  omega
theorem min_next {w wr w1 : World} {n m k c c' y : Nat} {da db ns : Nat → Nat} {v v' X : Value} (hown : wr.ownsRow w.heap.size 59 1 v k (dl ns k)) (hns : ∀ j, j < k → ns j < 65536)
    (hv : vd ns k + vd (pad db m) k = vd da k + 65536 ^ k * c) (hb : Below w.heap.size w wr) (hz : w.heap.size < wr.heap.size) (hy : y < 65536) (hc' : c' ≤ 1) (hx : y + (c + pad db m k) = da k + 65536 * c')
    (hown' : w1.ownsRow w.heap.size 59 1 v' (k + 1) (dl ns k ++ [.int .u64 (y : Nat)])) (hgrow : (wr.alloc (.cells #[X] 59)).grownBy w1 v.ownBlock) :
    MinRel w n m (k + 1) c' da db v' w1 := by
  obtain ⟨ho, hb'⟩ := push_rel hown hb (by omega) hown' hgrow
  have hs := hgrow.size
  simp at hs
  refine ⟨hc', upd ns k y, ho, upd_lt hns hy, ?_, hb', by omega⟩
  rw [vd_upd, Nat.pow_succ]
  exact min_step hv hx
theorem min_end {P N B A c T : Nat} (h : N + B = A + P * c) (hc : c ≤ 1) (hN : N < P) (hT : T ≤ A) (hB : B ≤ T) : c = 0 := by
  have : c = 0 ∨ c = 1 := by omega
  rcases this with h0 | h0
  · exact h0
  · subst h0; omega
theorem vd_mono (d : Nat → Nat) (a : Nat) : ∀ e, vd d a ≤ vd d (a + e)
  | 0 => Nat.le_refl _
  | e + 1 => Nat.le_trans (vd_mono d a e) (Nat.le_add_right _ _)
theorem pad_le (db : Nat → Nat) (m : Nat) : ∀ k, vd (pad db m) k ≤ vd db m
  | 0 => Nat.zero_le _
  | k + 1 => by
    by_cases h : k + 1 ≤ m
    · rw [vd_congr (e := db) (fun j hj => by simp only [pad]; rw [if_pos (by omega)])]
      have h2 := vd_mono db (k + 1) (m - (k + 1))
      rwa [show k + 1 + (m - (k + 1)) = m by omega] at h2
    · rw [vd_pad _ _ _ (by omega)]; exact Nat.le_refl _
theorem vd_full {d : Nat → Nat} : ∀ n m, (∀ j, n ≤ j → j < m → d j = 0) → n ≤ m → vd d m = vd d n
  | n, 0, _, h => by rw [show n = 0 by omega]
  | n, m + 1, h0, h => by
    by_cases e : n = m + 1
    · rw [e]
    · rw [vd, vd_full n m (fun j h1 h2 => h0 j h1 (by omega)) (by omega), h0 m (by omega) (by omega)]; omega
theorem vd_small {d : Nat → Nat} {n m : Nat} (h : vd d m < 65536 ^ n) : ∀ j, n ≤ j → j < m → d j = 0 := fun j h1 h2 => by
  have h3 := vd_mono d (j + 1) (m - (j + 1))
  rw [show j + 1 + (m - (j + 1)) = m by omega, vd] at h3
  have h4 : 65536 ^ n ≤ 65536 ^ j := Nat.pow_le_pow_right (by omega) h1
  rcases Nat.eq_zero_or_pos (d j) with h5 | h5
  · exact h5
  · have h6 : 65536 ^ j * 1 ≤ 65536 ^ j * d j := Nat.mul_le_mul_left _ h5
    generalize 65536 ^ j * d j = u at *
    generalize 65536 ^ j = v at *
    generalize 65536 ^ n = x at *
    omega

set_option maxRecDepth 100000 in
set_option maxHeartbeats 4000000 in
theorem minus_any (ba ca bb cb n m : Nat) (da db : Nat → Nat) (hn0 : 0 < n) (hn : (n : Int) ≤ 1000000) (_hm : (m : Int) ≤ 1000000) (ha : ∀ j, j < n → da j < 65536) (hb : ∀ j, j < m → db j < 65536) (hle : vd db m ≤ vd da n) (w : World) (hA : Dg w ba n da) (hB : Dg w bb m db) :
    Calls Try.prog 76 #[.slice (some ⟨ba, 0, none⟩) n ca, .slice (some ⟨bb, 0, none⟩) m cb] w (MkDg n (vd da n - vd db m) w) := by
  have Ha := Lib.hid ha; clear ha
  have Hb := Lib.hid hb; clear hb
  have HA := Lib.hid hA; clear hA
  have HB := Lib.hid hB; clear hB
  have HLE := Lib.hid hle; clear hle
  have HN0 := Lib.hid hn0; clear hn0
  obtain ⟨i0, hi, hz0, hz1, hz2⟩ := info_parts info22
  go_enter Try.func76, Try.ntmps76
  go_wp2
  go_loopw [5, 6, 7] (fun v cv i wr => ∃ k c : Nat, k ≤ n ∧ i = .int .i64 k ∧ cv = .int .u64 c ∧ Hid (MinRel w n m k c da db v wr)) (fun _ _ i _ => n - (intOf i).toNat)
  case atStart =>
    refine ⟨0, 0, by omega, rfl, rfl, Lib.hid ⟨by omega, da, ?_, by omega, rfl, by go_grown, by simp⟩⟩
    exact World.ownsRow_made (base := w.heap.size) (e := 59) (size := 1) w #[] 0 (by simp) (by decide) (by simp)
  case round =>
    obtain ⟨k, c, hk, rfl, rfl, H⟩ := hrel
    have hk0 : (0 : Int) ≤ k := by omega
    have hk1 : (k : Int) ≤ 1000000 := by omega
    obtain ⟨hc, ns, hown, hns, hval, hbel, hsz⟩ := H.out
    have hc0 : (0 : Int) ≤ c := by omega
    have hc1 : (c : Int) ≤ 1 := by omega
    have HO := Lib.hid hown; clear hown
    have HNS := Lib.hid hns; clear hns
    have HVAL := Lib.hid hval; clear hval
    have HBEL := Lib.hid hbel; clear hbel
    have HSZ := Lib.hid hsz; clear hsz
    have HC := Lib.hid hc; clear hc H
    by_cases h1 : k < n
    · have hka : (k : Int) < (n : Int) := by omega
      have xa : ((da k : Nat) : Int) ≤ 65535 := by have := Ha.out k (by omega); omega
      have xa0 : (0 : Int) ≤ (da k : Nat) := by omega
      have ea : wr.cell? ⟨ba, k, none⟩ = some (.int .u64 (da k : Nat)) := (HBEL.out.cell (p := ⟨ba, k, none⟩) HA.out.1).trans (HA.out.2 k (by omega))
      by_cases h2 : k < m
      · by_cases h3 : da k < c + db k
        · have hkb : (k : Int) < (m : Int) := by omega
          have xb : ((db k : Nat) : Int) ≤ 65535 := by have := Hb.out k (by omega); omega
          have xb0 : (0 : Int) ≤ (db k : Nat) := by omega
          have eb : wr.cell? ⟨bb, k, none⟩ = some (.int .u64 (db k : Nat)) := (HBEL.out.cell (p := ⟨bb, k, none⟩) HB.out.1).trans (HB.out.2 k (by omega))
          have eb' : pad db m k = db k := by simp only [pad]; rw [if_pos (by omega)]
          obtain ⟨y, hy⟩ : ∃ y : Nat, (c : Int) + (db k : Nat) = (y : Int) := ⟨c + db k, by omega⟩
          have hyc : y = c + pad db m k := by rw [eb']; omega
          have HYC := Lib.hid hyc; clear hyc eb'
          have hyb : (y : Int) ≤ 65536 := by omega
          have hy0 : (0 : Int) ≤ y := by omega
          have hlt : ((da k : Nat) : Int) < (y : Int) := by omega
          obtain ⟨z, hz⟩ : ∃ z : Nat, ((da k : Nat) : Int) + 65536 - (y : Int) = (z : Int) := ⟨da k + 65536 - y, by omega⟩
          have hzl : z < 65536 := by omega
          have hzx : z + (c + pad db m k) = da k + 65536 * 1 := by have := HYC.out; omega
          have HZX := Lib.hid hzx; clear hzx
          have HZL := Lib.hid hzl; clear hzl
          go_wp2_with (at_builtin; refine wpList_append_own _ rfl (.tmp 37) (.tmp 41) 56 rfl w.heap.size 59 i0 (.int .u64 0) 1 8 Try.underlying56 hi hz0 hz1 hz2 rfl (by decide) _ _ _ rfl (HO.out.alloc _) ⟨wr.heap.size, 0, none⟩ 1 1 [.int .u64 (z : Int)] rfl rfl ?d111 ?d112 ?d113 ?d114 ?d115 ?_)
          try (case d111 => exact cell_one_new _ _ _)
          try (case d112 => first | rfl | (intro u hu; simp at hu; subst hu; rfl))
          try (case d113 => unfold maxLen; omega)
          try (case d114 => omega)
          try (case d115 => have := HSZ.out; first | omega | (simp; omega))
          intro v' w1 hown' hgrow _
          have HN := Lib.hid (min_next (n := n) (m := m) (da := da) (db := db) HO.out HNS.out HVAL.out HBEL.out HSZ.out HZL.out (by omega) HZX.out hown' hgrow)
          clear hown' hgrow
          go_wp2
          go_roundw
          case rel => exact ⟨k + 1, 1, by omega, by go_num, rfl, HN⟩
          case measure => simp [intOf]; omega
        · have hkb : (k : Int) < (m : Int) := by omega
          have xb : ((db k : Nat) : Int) ≤ 65535 := by have := Hb.out k (by omega); omega
          have xb0 : (0 : Int) ≤ (db k : Nat) := by omega
          have eb : wr.cell? ⟨bb, k, none⟩ = some (.int .u64 (db k : Nat)) := (HBEL.out.cell (p := ⟨bb, k, none⟩) HB.out.1).trans (HB.out.2 k (by omega))
          have eb' : pad db m k = db k := by simp only [pad]; rw [if_pos (by omega)]
          obtain ⟨y, hy⟩ : ∃ y : Nat, (c : Int) + (db k : Nat) = (y : Int) := ⟨c + db k, by omega⟩
          have hyc : y = c + pad db m k := by rw [eb']; omega
          have HYC := Lib.hid hyc; clear hyc eb'
          have hyb : (y : Int) ≤ 65536 := by omega
          have hy0 : (0 : Int) ≤ y := by omega
          have hlt : ¬ ((da k : Nat) : Int) < (y : Int) := by omega
          obtain ⟨z, hz⟩ : ∃ z : Nat, ((da k : Nat) : Int) - (y : Int) = (z : Int) := ⟨da k - y, by omega⟩
          have hzl : z < 65536 := by omega
          have hzx : z + (c + pad db m k) = da k + 65536 * 0 := by have := HYC.out; omega
          have HZX := Lib.hid hzx; clear hzx
          have HZL := Lib.hid hzl; clear hzl
          go_wp2_with (at_builtin; refine wpList_append_own _ rfl (.tmp 37) (.tmp 41) 56 rfl w.heap.size 59 i0 (.int .u64 0) 1 8 Try.underlying56 hi hz0 hz1 hz2 rfl (by decide) _ _ _ rfl (HO.out.alloc _) ⟨wr.heap.size, 0, none⟩ 1 1 [.int .u64 (z : Int)] rfl rfl ?d101 ?d102 ?d103 ?d104 ?d105 ?_)
          try (case d101 => exact cell_one_new _ _ _)
          try (case d102 => first | rfl | (intro u hu; simp at hu; subst hu; rfl))
          try (case d103 => unfold maxLen; omega)
          try (case d104 => omega)
          try (case d105 => have := HSZ.out; first | omega | (simp; omega))
          intro v' w1 hown' hgrow _
          have HN := Lib.hid (min_next (n := n) (m := m) (da := da) (db := db) HO.out HNS.out HVAL.out HBEL.out HSZ.out HZL.out (by omega) HZX.out hown' hgrow)
          clear hown' hgrow
          go_wp2
          go_roundw
          case rel => exact ⟨k + 1, 0, by omega, by go_num, rfl, HN⟩
          case measure => simp [intOf]; omega
      · by_cases h3 : da k < c
        · have hkb : ¬ (k : Int) < (m : Int) := by omega
          have eb' : pad db m k = 0 := by simp only [pad]; rw [if_neg (by omega)]
          obtain ⟨y, hy⟩ : ∃ y : Nat, c = y := ⟨c, rfl⟩
          subst hy
          have hyc : c = c + pad db m k := by rw [eb']; omega
          have HYC := Lib.hid hyc; clear hyc eb'
          have hyb : (c : Int) ≤ 65536 := by omega
          have hy0 : (0 : Int) ≤ c := by omega
          have hlt : ((da k : Nat) : Int) < (c : Int) := by omega
          obtain ⟨z, hz⟩ : ∃ z : Nat, ((da k : Nat) : Int) + 65536 - (c : Int) = (z : Int) := ⟨da k + 65536 - c, by omega⟩
          have hzl : z < 65536 := by omega
          have hzx : z + (c + pad db m k) = da k + 65536 * 1 := by have := HYC.out; omega
          have HZX := Lib.hid hzx; clear hzx
          have HZL := Lib.hid hzl; clear hzl
          go_wp2_with (at_builtin; refine wpList_append_own _ rfl (.tmp 37) (.tmp 41) 56 rfl w.heap.size 59 i0 (.int .u64 0) 1 8 Try.underlying56 hi hz0 hz1 hz2 rfl (by decide) _ _ _ rfl (HO.out.alloc _) ⟨wr.heap.size, 0, none⟩ 1 1 [.int .u64 (z : Int)] rfl rfl ?d011 ?d012 ?d013 ?d014 ?d015 ?_)
          try (case d011 => exact cell_one_new _ _ _)
          try (case d012 => first | rfl | (intro u hu; simp at hu; subst hu; rfl))
          try (case d013 => unfold maxLen; omega)
          try (case d014 => omega)
          try (case d015 => have := HSZ.out; first | omega | (simp; omega))
          intro v' w1 hown' hgrow _
          have HN := Lib.hid (min_next (n := n) (m := m) (da := da) (db := db) HO.out HNS.out HVAL.out HBEL.out HSZ.out HZL.out (by omega) HZX.out hown' hgrow)
          clear hown' hgrow
          go_wp2
          go_roundw
          case rel => exact ⟨k + 1, 1, by omega, by go_num, rfl, HN⟩
          case measure => simp [intOf]; omega
        · have hkb : ¬ (k : Int) < (m : Int) := by omega
          have eb' : pad db m k = 0 := by simp only [pad]; rw [if_neg (by omega)]
          obtain ⟨y, hy⟩ : ∃ y : Nat, c = y := ⟨c, rfl⟩
          subst hy
          have hyc : c = c + pad db m k := by rw [eb']; omega
          have HYC := Lib.hid hyc; clear hyc eb'
          have hyb : (c : Int) ≤ 65536 := by omega
          have hy0 : (0 : Int) ≤ c := by omega
          have hlt : ¬ ((da k : Nat) : Int) < (c : Int) := by omega
          obtain ⟨z, hz⟩ : ∃ z : Nat, ((da k : Nat) : Int) - (c : Int) = (z : Int) := ⟨da k - c, by omega⟩
          have hzl : z < 65536 := by omega
          have hzx : z + (c + pad db m k) = da k + 65536 * 0 := by have := HYC.out; omega
          have HZX := Lib.hid hzx; clear hzx
          have HZL := Lib.hid hzl; clear hzl
          go_wp2_with (at_builtin; refine wpList_append_own _ rfl (.tmp 37) (.tmp 41) 56 rfl w.heap.size 59 i0 (.int .u64 0) 1 8 Try.underlying56 hi hz0 hz1 hz2 rfl (by decide) _ _ _ rfl (HO.out.alloc _) ⟨wr.heap.size, 0, none⟩ 1 1 [.int .u64 (z : Int)] rfl rfl ?d001 ?d002 ?d003 ?d004 ?d005 ?_)
          try (case d001 => exact cell_one_new _ _ _)
          try (case d002 => first | rfl | (intro u hu; simp at hu; subst hu; rfl))
          try (case d003 => unfold maxLen; omega)
          try (case d004 => omega)
          try (case d005 => have := HSZ.out; first | omega | (simp; omega))
          intro v' w1 hown' hgrow _
          have HN := Lib.hid (min_next (n := n) (m := m) (da := da) (db := db) HO.out HNS.out HVAL.out HBEL.out HSZ.out HZL.out (by omega) HZX.out hown' hgrow)
          clear hown' hgrow
          go_wp2
          go_roundw
          case rel => exact ⟨k + 1, 0, by omega, by go_num, rfl, HN⟩
          case measure => simp [intOf]; omega
    · have hka : ¬ (k : Int) < (n : Int) := by omega
      obtain rfl : k = n := by omega
      have hc2 := min_end HVAL.out HC.out (vd_lt HNS.out) HLE.out (pad_le db m k)
      have R := made_of (Nat.le_refl _) HO.out HN0.out HNS.out HBEL.out
      have hpe : vd (pad db m) k = vd db m := by
        by_cases q : m ≤ k
        · exact vd_pad _ _ _ q
        · have h5 := vd_small (d := db) (n := k) (m := m) (Nat.lt_of_le_of_lt HLE.out (vd_lt Ha.out))
          rw [vd_full (d := db) k m h5 (by omega)]
          exact vd_congr (fun j hj => by simp only [pad]; rw [if_pos (by omega)])
      have hfin : vd ns k = vd da k - vd db m := by have := HVAL.out; rw [hc2, hpe] at this; omega
      rw [hfin] at R
      have HR := Lib.hid R
      clear R hfin hpe hc2
      go_wp2
      go_ret
      exact HR.out
end Go.Proofs.Ytgegkffigjogcaa
namespace Go.Proofs.Ytgegkffigjogcaa
open Go.RowKit

/-- A block of L digits that may be written. -/
def OutAt (wr : World) (B L : Nat) (o : Nat → Nat) : Prop := B < wr.heap.size ∧ ∀ j, j < L → wr.cell? ⟨B, j, none⟩ = some (.int .u64 (o j : Nat)) ∧ wr.frozen? ⟨B, j, none⟩ = false
theorem OutAt.drewN {wr : World} {B L : Nat} {o : Nat → Nat} (h : OutAt wr B L o) (n : Nat) : OutAt (wr.drewN n) B L o := h
theorem OutAt.set {wr : World} {B L : Nat} {o : Nat → Nat} (h : OutAt wr B L o) (p y : Nat) (hp : p < L) : OutAt (wr.setCell ⟨B, p, none⟩ (.int .u64 (y : Nat))) B L (upd o p y) := by
  refine ⟨by simpa using h.1, fun j hj => ⟨?_, ?_⟩⟩
  · by_cases e : j = p
    · subst e
      rw [World.cell?_setCell_same _ _ _ (h.2 j hj).1]
      simp [upd]
    · rw [World.cell?_setCell_other _ _ _ _ (by intro e2; apply e; injection e2 with _ e3; exact e3.symm), (h.2 j hj).1]
      simp [upd, e]
  · rw [World.frozen?_setCell]; exact (h.2 j hj).2

/-- One digit in the place of another. -/
theorem vd_set (o : Nat → Nat) (p y : Nat) : ∀ L, p < L → vd (upd o p y) L + 65536 ^ p * o p = vd o L + 65536 ^ p * y
  | 0, h => by omega
  | L + 1, h => by
    simp only [vd]
    by_cases e : p = L
    · subst e
      rw [vd_congr (d := upd o p y) (e := o) (fun j hj => by simp [upd, show ¬ j = p by omega])]
      simp only [upd, if_true]
      omega
    · have := vd_set o p y L (by omega)
      rw [show upd o p y L = o L by simp [upd, show ¬ L = p by omega]]
      omega

/-- What the inner loop of Product keeps: the number of all digits, and what is carried. -/
def PRel (n m i j c : Nat) (da db o0 o : Nat → Nat) : Prop :=
  c < 65536 ∧ (∀ t, t < n + m → o t < 65536) ∧ (∀ t, i + m ≤ t → t < n + m → o t = 0) ∧ vd o (n + m) + 65536 ^ (i + j) * c = vd o0 (n + m) + 65536 ^ i * da i * vd db j
theorem prel_next {n m i j c x : Nat} {da db o0 o : Nat → Nat} (h : PRel n m i j c da db o0 o) (hi : i < n) (hj : j < m) (hx : x = o (i + j) + da i * db j + c) (ha : da i < 65536) (hb : db j < 65536) :
    PRel n m i (j + 1) (x / 65536) da db o0 (upd o (i + j) (x % 65536)) := by
  obtain ⟨hc, ho, hz, hv⟩ := h
  have hop := ho (i + j) (by omega)
  have hab : da i * db j ≤ 65535 * 65535 := Nat.mul_le_mul (by omega) (by omega)
  refine ⟨by omega, fun t ht => ?_, fun t h1 h2 => ?_, ?_⟩
  · unfold upd; split
    · omega
    · exact ho t ht
  · unfold upd; rw [if_neg (by omega)]; exact hz t h1 h2
  · have h1 := vd_set o (i + j) (x % 65536) (n + m) (by omega)
    have e : x = x % 65536 + 65536 * (x / 65536) := by omega
    have e1 : 65536 ^ (i + j) * x = 65536 ^ (i + j) * (x % 65536) + 65536 ^ (i + (j + 1)) * (x / 65536) := by
      rw [show i + (j + 1) = (i + j) + 1 by omega, Nat.pow_succ, Nat.mul_assoc, ← Nat.mul_add, ← e]
    have e2 : 65536 ^ (i + j) * x = 65536 ^ (i + j) * o (i + j) + 65536 ^ (i + j) * (da i * db j) + 65536 ^ (i + j) * c := by rw [hx, Nat.mul_add, Nat.mul_add]
    have e3 : 65536 ^ i * da i * vd db (j + 1) = 65536 ^ i * da i * vd db j + 65536 ^ (i + j) * (da i * db j) := by
      simp only [vd]
      rw [Nat.mul_add, Nat.pow_add]
      congr 1
      simp only [Nat.mul_assoc, Nat.mul_left_comm]
    rw [e3]
    omega
theorem prel_end {n m i c : Nat} {da db o0 o : Nat → Nat} (h : PRel n m i m c da db o0 o) (hi : i < n) (hv0 : vd o0 (n + m) = vd da i * vd db m) :
    (∀ t, t < n + m → upd o (i + m) c t < 65536) ∧ (∀ t, i + 1 + m ≤ t → t < n + m → upd o (i + m) c t = 0) ∧ vd (upd o (i + m) c) (n + m) = vd da (i + 1) * vd db m := by
  obtain ⟨hc, ho, hz, hv⟩ := h
  refine ⟨fun t ht => ?_, fun t h1 h2 => ?_, ?_⟩
  · unfold upd; split
    · exact hc
    · exact ho t ht
  · unfold upd; rw [if_neg (by omega)]; exact hz t (by omega) h2
  · have h1 := vd_set o (i + m) c (n + m) (by omega)
    rw [hz (i + m) (Nat.le_refl _) (by omega), Nat.mul_zero, Nat.add_zero] at h1
    rw [h1, hv, hv0]
    simp only [vd]
    rw [Nat.add_mul]

theorem madeCells_at (k j : Nat) (h : j < k) : (madeCells (Value.int .u64 0).cells (k * 1)).toList[j]? = some (.int .u64 ((0 : Nat) : Int)) := by
  simp [madeCells, Value.cells, h, Nat.mod_one]
theorem vd_nought (L : Nat) : vd (fun _ => 0) L = 0 := by
  induction L with
  | zero => rfl
  | succ L ih => simp [vd, ih]

set_option maxRecDepth 100000 in
set_option maxHeartbeats 4000000 in
theorem product_digits (ba ca bb cb n m : Nat) (da db : Nat → Nat) (hn : (n : Int) ≤ 1000000) (hm : (m : Int) ≤ 1000000) (ha : ∀ j, j < n → da j < 65536) (hb : ∀ j, j < m → db j < 65536) (w : World) (hA : Dg w ba n da) (hB : Dg w bb m db) :
    Calls Try.prog 50 #[.slice (some ⟨ba, 0, none⟩) n ca, .slice (some ⟨bb, 0, none⟩) m cb] w (MkDg (n + m) (vd da n * vd db m) w) := by
  have Ha := Lib.hid ha; clear ha
  have Hb := Lib.hid hb; clear hb
  have HA := Lib.hid hA; clear hA
  have HB := Lib.hid hB; clear hB
  have hn0 : (0 : Int) ≤ n := by omega
  have hm0 : (0 : Int) ≤ m := by omega
  obtain ⟨i0, hi, hz0, hz1, hz2⟩ := info_parts info22
  obtain ⟨L, hL⟩ : ∃ L : Nat, (n : Int) + (m : Int) = (L : Int) := ⟨n + m, by omega⟩
  have HL : Hid (n + m = L) := Lib.hid (by omega)
  have hLb : (L : Int) ≤ 2000000 := by omega
  go_enter Try.func50, Try.ntmps50
  go_wp2_with (at_make; refine wpList_make_full _ rfl _ _ 56 rfl w.heap.size 59 i0 (.int .u64 0) 1 Try.underlying56 hi hz0 hz1 .i64 .i64 _ _ L rfl rfl rfl rfl (by rw [hz2]; omega) (by unfold maxLen; omega) (Nat.le_refl _) ?_; intro w0 hown0 hgrow0)
  have hout : OutAt w0 w.heap.size L (fun _ => 0) := ⟨(hown0.lt _ rfl).2, fun j hj => ⟨(hown0.cellAt j (by omega)).trans (madeCells_at L j hj), hown0.frozenAt j⟩⟩
  have hbel : Below w.heap.size w w0 := (Below.refl _ _).grown hgrow0 (Nat.le_refl _) (fun k hk => by cases hk)
  have HW := Lib.hid (And.intro hout hbel)
  clear hout hbel hown0 hgrow0 hL
  go_wp2
  go_loopw [6] (fun iv wr => ∃ i : Nat, i ≤ n ∧ iv = .int .i64 i ∧ Hid (∃ o : Nat → Nat, OutAt wr w.heap.size L o ∧ Below w.heap.size w wr ∧ (∀ t, t < n + m → o t < 65536) ∧ (∀ t, i + m ≤ t → t < n + m → o t = 0) ∧ vd o (n + m) = vd da i * vd db m)) (fun iv _ => n - (intOf iv).toNat)
  case atStart => exact ⟨0, Nat.zero_le _, rfl, Lib.hid ⟨fun _ => 0, HW.out.1, HW.out.2, fun _ _ => (by show (0 : Nat) < 65536; omega), fun _ _ _ => rfl, by rw [vd_nought]; simp [vd]⟩⟩
  case round =>
    obtain ⟨i, hin, rfl, H⟩ := hrel
    have hi0 : (0 : Int) ≤ i := by omega
    have hi1 : (i : Int) ≤ 1000000 := by omega
    by_cases hlt : i < n
    · obtain ⟨o0, hO0, hB0, hd0, hz0', hv0⟩ := H.out
      have HV0 := Lib.hid hv0; clear hv0
      have HO0 := Lib.hid (And.intro hO0 (And.intro hB0 (And.intro hd0 hz0'))); clear hO0 hB0 hd0 hz0' H
      go_wp2
      go_loopw [7, 8] (fun cv jv wr2 => ∃ j c : Nat, j ≤ m ∧ jv = .int .i64 j ∧ cv = .int .u64 c ∧ Hid (∃ o : Nat → Nat, OutAt wr2 w.heap.size L o ∧ Below w.heap.size w wr2 ∧ PRel n m i j c da db o0 o)) (fun _ jv _ => m - (intOf jv).toNat)
      case atStart => exact ⟨0, 0, Nat.zero_le _, rfl, rfl, Lib.hid ⟨o0, HO0.out.1, HO0.out.2.1, by omega, HO0.out.2.2.1, HO0.out.2.2.2, by simp [vd]⟩⟩
      case round =>
        obtain ⟨j, c, hjm, rfl, rfl, H⟩ := hrel
        obtain ⟨o, hO, hBw, hP⟩ := H.out
        have hj0 : (0 : Int) ≤ j := by omega
        have hj1 : (j : Int) ≤ 1000000 := by omega
        have hc0 : (0 : Int) ≤ c := by omega
        have hc1 : (c : Int) < 65536 := by have := hP.1; omega
        by_cases hjl : j < m
        · obtain ⟨p, hp⟩ : ∃ p : Nat, (i : Int) + (j : Int) = (p : Int) := ⟨i + j, by omega⟩
          have HPI : Hid (i + j = p) := Lib.hid (by omega)
          have hp0 : (0 : Int) ≤ p := by omega
          have hpL : (p : Int) < (L : Int) := by have := HL.out; omega
          have hil : (i : Int) < (n : Int) := by omega
          have hjl' : (j : Int) < (m : Int) := by omega
          have co : wr.cell? ⟨w.heap.size, p, none⟩ = some (.int .u64 (o p : Nat)) := (hO.2 p (by omega)).1
          have fo : wr.frozen? ⟨w.heap.size, p, none⟩ = false := (hO.2 p (by omega)).2
          have cA : wr.cell? ⟨ba, i, none⟩ = some (.int .u64 (da i : Nat)) := (hBw.cell (p := ⟨ba, i, none⟩) HA.out.1).trans (HA.out.2 i hlt)
          have cB : wr.cell? ⟨bb, j, none⟩ = some (.int .u64 (db j : Nat)) := (hBw.cell (p := ⟨bb, j, none⟩) HB.out.1).trans (HB.out.2 j hjl)
          obtain ⟨q, hq⟩ : ∃ q : Nat, q = da i * db j := ⟨_, rfl⟩
          have hab : da i * db j ≤ 65535 * 65535 := Nat.mul_le_mul (by have := Ha.out i hlt; omega) (by have := Hb.out j hjl; omega)
          have hqb : q ≤ 4294836225 := by rw [hq]; exact hab
          have hqi : IntKind.u64.wrap (((da i : Nat) : Int) * ((db j : Nat) : Int)) = (q : Int) := by
            rw [IntKind.wrap_u64, hq]
            have e0 : ((da i : Nat) : Int) * ((db j : Nat) : Int) = ((da i * db j : Nat) : Int) := by simp
            rw [e0]; omega
          have hop : o p < 65536 := hP.2.1 p (by have := HL.out; omega)
          obtain ⟨x, hx⟩ : ∃ x : Nat, x = o p + q + c := ⟨_, rfl⟩
          have hxi : ((o p : Nat) : Int) + (q : Int) + (c : Int) = (x : Int) := by omega
          have hxb : x < 8589934592 := by omega
          have hand : bits .and .u64 (x : Int) 65535 = ((x % 65536 : Nat) : Int) := and_low16 x (by omega)
          have HN : Hid (PRel n m i (j + 1) (x / 65536) da db o0 (upd o p (x % 65536))) := Lib.hid (by
            have := prel_next (x := x) hP hlt hjl (by rw [HPI.out, hx, hq]) (Ha.out i hlt) (Hb.out j hjl)
            rwa [HPI.out] at this)
          have HAND := Lib.hid hand; clear hand
          have HOB := Lib.hid (And.intro hO hBw); clear hO hBw
          have HQ := Lib.hid hq; clear hq
          have HXX := Lib.hid hx; clear hx
          clear hP H hab
          have hq0 : (0 : Int) ≤ q := by omega
          have hq1 : (q : Int) ≤ 4294836225 := by omega
          have hx0 : (0 : Int) ≤ x := by omega
          have hx1 : (x : Int) < 8589934592 := by omega
          have ho0 : (0 : Int) ≤ (o p : Nat) := by omega
          have ho1 : ((o p : Nat) : Int) < 65536 := by omega
          clear hqb hxb hop
          go_wp2
          go_quiet (fail)
          go_wp2
          go_roundw
          case rel =>
            refine ⟨j + 1, x / 65536, by omega, by go_num, by go_num, Lib.hid ⟨upd o p (x % 65536), ?_, ?_, HN.out⟩⟩
            · rw [HAND.out]; exact (HOB.out.1.drewN nq).set p (x % 65536) (by omega)
            · exact (below_drewN HOB.out.2 nq).setCell (Nat.le_refl _) _
          case measure => simp [intOf]; omega
        · obtain rfl : j = m := by omega
          obtain ⟨p, hp⟩ : ∃ p : Nat, (i : Int) + (j : Int) = (p : Int) := ⟨i + j, by omega⟩
          have HPI : Hid (i + j = p) := Lib.hid (by omega)
          have hp0 : (0 : Int) ≤ p := by omega
          have hpL : (p : Int) < (L : Int) := by have := HL.out; omega
          have co : wr.cell? ⟨w.heap.size, p, none⟩ = some (.int .u64 (o p : Nat)) := (hO.2 p (by omega)).1
          have fo : wr.frozen? ⟨w.heap.size, p, none⟩ = false := (hO.2 p (by omega)).2
          have HN := Lib.hid (prel_end hP hlt HV0.out)
          have HOB := Lib.hid (And.intro hO hBw); clear hO hBw hP H
          go_wp2
          go_roundw
          case rel =>
            refine ⟨i + 1, by omega, by go_num, Lib.hid ⟨upd o p c, HOB.out.1.set p c (by omega), HOB.out.2.setCell (Nat.le_refl _) _, ?_, ?_, ?_⟩⟩
            · rw [← HPI.out]; exact HN.out.1
            · rw [← HPI.out]; exact HN.out.2.1
            · rw [← HPI.out]; exact HN.out.2.2
          case measure => simp [intOf]; omega
    · obtain rfl : i = n := by omega
      obtain ⟨o, hO, hBw, hd, -, hv⟩ := H.out
      go_wp2
      go_ret
      rw [HL.out] at hv hd ⊢
      exact ⟨w.heap.size, L, o, rfl, Nat.le_refl _, ⟨hO.1, fun j hj => (hO.2 j hj).1⟩, hd, hv, hBw⟩
end Go.Proofs.Ytgegkffigjogcaa
namespace Go.Proofs.Ytgegkffigjogcaa
open Go.RowKit

/-- The digits with one more below them. -/
def below1 (x : Nat) (d : Nat → Nat) (j : Nat) : Nat := if j = 0 then x else d (j - 1)
theorem vd_below1 (x : Nat) (d : Nat → Nat) : ∀ n, vd (below1 x d) (n + 1) = x + 65536 * vd d n
  | 0 => by simp [vd, below1]
  | n + 1 => by
    rw [vd, vd_below1 x d n, vd, Nat.mul_add, ← Nat.mul_assoc, Nat.pow_succ, Nat.mul_comm (65536 ^ n) 65536]
    simp only [below1]
    rw [if_neg (by omega), Nat.add_sub_cancel, Nat.add_assoc]
theorem below1_lt {x n : Nat} {d : Nat → Nat} (hx : x < 65536) (hd : ∀ j, j < n → d j < 65536) : ∀ j, j < n + 1 → below1 x d j < 65536 := fun j hj => by
  unfold below1; split
  · exact hx
  · exact hd _ (by omega)
theorem dl_below1 (x : Nat) (d : Nat → Nat) (n : Nat) : Value.int .u64 (x : Nat) :: dl d n = dl (below1 x d) (1 + n) := by
  unfold dl
  rw [Nat.add_comm 1 n, List.range_succ_eq_map, List.map_cons, List.map_map]
  rfl

/-- What the inner rounds keep: c bits are still to come of the digit i. -/
structure DivR (w : World) (n m i c : Nat) (da q : Nat → Nat) (D : Nat) (Q g nr : Nat) (dr : Nat → Nat) (wr : World) : Prop where
  old : Below w.heap.size w wr
  rest : Dg wr g nr dr
  apart : w.heap.size < g
  hQ : Q = w.heap.size
  restl : ∀ j, j < nr → dr j < 65536
  long : nr ≤ m + 1
  out : OutAt wr Q n q
  outl : ∀ j, j < n → q j < 65536
  todo : ∀ j, j < i → q j = 0
  bits : q i % 2 ^ c = 0
  sum : vd q n * D + (vd da i + 65536 ^ i * vd dr nr) = vd da n
  less : vd dr nr < 2 ^ c * D
theorem DivR.gQ {w wr : World} {n m i c D Q g nr : Nat} {da q dr : Nat → Nat} (h : DivR w n m i c da q D Q g nr dr wr) : g ≠ Q := by have h1 := h.apart; have h2 := h.hQ; omega

theorem OutAt.below {wr w' : World} {B L : Nat} {o : Nat → Nat} (h : OutAt wr B L o) (hb : Below wr.heap.size wr w') : OutAt w' B L o :=
  ⟨Nat.lt_of_lt_of_le h.1 hb.size, fun j hj => ⟨(hb.cell (p := ⟨B, j, none⟩) h.1).trans (h.2 j hj).1, (hb.frozen (p := ⟨B, j, none⟩) h.1).trans (h.2 j hj).2⟩⟩
theorem div_no {r c D : Nat} (h : ¬ 2 ^ c * D ≤ r) : r < 2 ^ c * D := by omega
theorem bits_half {x c : Nat} (h : x % 2 ^ (c + 1) = 0) : x % 2 ^ c = 0 := by
  rw [Nat.pow_succ] at h
  have h1 : x % (2 ^ c * 2) % 2 ^ c = x % 2 ^ c := Nat.mod_mul_right_mod _ _ _
  rw [h, Nat.zero_mod] at h1
  exact h1.symm
theorem bits_more {x c : Nat} (h : x % 2 ^ (c + 1) = 0) : (x + 2 ^ c) % 2 ^ c = 0 := by rw [Nat.add_mod_right]; exact bits_half h
theorem bits_room {x c : Nat} (h : x % 2 ^ (c + 1) = 0) (hx : x < 65536) (hc : c < 16) : x + 2 ^ c < 65536 := by
  have hp := Nat.two_pow_pos c
  obtain ⟨k, hk⟩ := Nat.dvd_of_mod_eq_zero h
  have hd : (65536 : Nat) = 2 ^ (c + 1) * 2 ^ (15 - c) := by rw [← Nat.pow_add, show c + 1 + (15 - c) = 16 by omega]
  have hk2 : k < 2 ^ (15 - c) := by
    rw [hk, hd] at hx
    exact Nat.lt_of_mul_lt_mul_left hx
  have h3 : 2 ^ (c + 1) * (k + 1) ≤ 2 ^ (c + 1) * 2 ^ (15 - c) := Nat.mul_le_mul_left _ hk2
  rw [← hd, Nat.mul_add, ← hk, Nat.pow_succ] at h3
  omega
theorem bits_or_up {x c : Nat} (h : x % 2 ^ (c + 1) = 0) (hx : x < 65536) (hc : c < 16) : bits .or .u64 (x : Int) (2 ^ c) = ((x + 2 ^ c : Nat) : Int) := by
  have hp : 2 ^ c < 65536 := by
    rw [show (65536 : Nat) = 2 ^ 16 by rfl]; exact Nat.pow_lt_pow_right (by omega) hc
  have h1 := bits_or_u64_nat x (2 ^ c) (by omega) (by omega)
  have e0 : ((2 ^ c : Nat) : Int) = 2 ^ c := by simp
  rw [e0] at h1
  rw [h1]
  congr 1
  obtain ⟨k, hk⟩ := Nat.dvd_of_mod_eq_zero h
  rw [hk, ← Nat.two_pow_add_eq_or_of_lt (Nat.pow_lt_pow_right (by omega) (Nat.lt_succ_self c))]
theorem div_sum {V q r i' R D A P t D' : Nat} (h : q * D + (A + P * r) = V) (hr : r = R + D') (hD' : D' = t * D) (hi : i' = q + P * t) : i' * D + (A + P * R) = V := by
  subst hi hD' hr
  rw [← h]; grind
/-- .. one bit less. -/
theorem DivR.zero {w wr : World} {n m i c D Q g nr : Nat} {da q dr : Nat → Nat} (h : DivR w n m i (c + 1) da q D Q g nr dr wr) {w' : World} (hb : Below wr.heap.size wr w') (hl : ¬ 2 ^ c * D ≤ vd dr nr) : DivR w n m i c da q D Q g nr dr w' :=
  ⟨h.old.trans (hb.mono h.old.size), h.rest.below hb, h.apart, h.hQ, h.restl, h.long, h.out.below hb, h.outl, h.todo, bits_half h.bits, h.sum, div_no hl⟩
theorem DivR.one {w wr : World} {n m i c D Q g nr : Nat} {da q dr : Nat → Nat} (h : DivR w n m i (c + 1) da q D Q g nr dr wr) {w' : World} {g' : Nat} {dr' : Nat → Nat} (hi : i < n) (hc : c < 16) (hb : Below wr.heap.size wr w') (hl : 2 ^ c * D ≤ vd dr nr)
    (hr : Dg w' g' nr dr') (hg : wr.heap.size ≤ g') (hrl : ∀ j, j < nr → dr' j < 65536) (hv : vd dr' nr = vd dr nr - 2 ^ c * D) :
    DivR w n m i c da (upd q i (q i + 2 ^ c)) D Q g' nr dr' (w'.setCell ⟨Q, i, none⟩ (.int .u64 ((q i + 2 ^ c : Nat) : Int))) := by
  have hlt := h.out.1
  have hroom := bits_room h.bits (h.outl i hi) hc
  have hq := vd_set q i (q i + 2 ^ c) n hi
  have hQg : g' ≠ Q := by omega
  refine ⟨(h.old.trans (hb.mono h.old.size)).setCell (by show w.heap.size ≤ Q; rw [h.hQ]; exact Nat.le_refl _) _, ⟨by simpa using hr.1, fun j hj => ?_⟩, by have := h.old.size; have := h.hQ; omega, h.hQ, hrl, h.long, ?_, fun j hj => ?_, fun j hj => ?_, ?_, ?_, ?_⟩
  · rw [World.cell?_setCell_other _ _ _ _ (fun e => hQg (congrArg Addr.block e).symm)]; exact hr.2 j hj
  · exact (h.out.below hb).set i _ hi
  · unfold upd; split
    · exact hroom
    · exact h.outl j hj
  · unfold upd; rw [if_neg (by omega)]; exact h.todo j hj
  · simp only [upd]; rw [if_pos trivial]; exact bits_more h.bits
  · refine div_sum h.sum (r := vd dr nr) (R := vd dr' nr) (D' := 2 ^ c * D) (t := 2 ^ c) (by omega) rfl ?_
    rw [Nat.mul_add] at hq; omega
  · rw [hv]
    have h1 := h.less
    rw [Nat.pow_succ, Nat.mul_comm (2 ^ c) 2, Nat.mul_assoc] at h1
    omega
end Go.Proofs.Ytgegkffigjogcaa
namespace Go.Proofs.Ytgegkffigjogcaa
open Go.RowKit

theorem own_one (w : World) (x : Nat) : (w.alloc (.cells #[.int .u64 (x : Nat)] 59)).ownsRow w.heap.size 59 1 (.slice (some ⟨w.heap.size, 0, none⟩) 1 1) 1 [.int .u64 (x : Nat)] :=
  ⟨by simp, .inr ⟨w.heap.size, 1, #[.int .u64 (x : Nat)], rfl, Nat.le_refl _, heap_alloc_new _ _, Nat.le_refl _, by unfold maxLen; omega, by simp, by simp⟩⟩
theorem own_dg {w : World} {base k : Nat} {v : Value} {d : Nat → Nat} (h : w.ownsRow base 59 1 v k (dl d k)) (hk : 0 < k) : ∃ g cap, v = .slice (some ⟨g, 0, none⟩) k cap ∧ base ≤ g ∧ k ≤ cap ∧ Dg w g k d := by
  obtain ⟨-, h1⟩ := h
  rcases h1 with ⟨-, h0⟩ | ⟨g, cap, cur, rfl, hg, hc, hnc, hm, hcs, ht⟩
  · omega
  · refine ⟨g, cap, rfl, hg, hnc, (Array.getElem?_eq_some_iff.1 hc).1, fun j hj => ?_⟩
    rw [cell_of_row _ _ _ _ _ _ hc, ← dl_at d k j hj, ← ht]
    simp only [Nat.mul_one, List.getElem?_take, hj, if_true]
    simp
theorem slice_head (g len cap h : Nat) (hh : (h : Int) + 1 ≤ cap) (w : World) : (Instr.slice 56 (.slice (some ⟨g, 0, none⟩) len cap) none (some (.int .i64 ((h : Int) + 1))) none).run Try.prog w = .ok (.slice (some ⟨g, 0, none⟩) (h + 1) cap) w := by
  have hsz : (sizeOf (Try.prog.elem 56)).run Try.prog w = .ok 1 w := by kernel_rfl
  rw [run_slice_h w 56 (some ⟨g, 0, none⟩) len cap (by kernel_rfl) .i64 _ (by omega) hh, hsz]
  simp only [Result.andThen, sliced]
  rw [show ((h : Int) + 1).toNat = h + 1 by omega]
  simp [Addr.add]
theorem div_open {w wr w1 : World} {n m i D Q g nr g' nr' : Nat} {da q dr : Nat → Nat} (h : DivR w n m (i + 1) 0 da q D Q g nr dr wr) (hb : Below wr.heap.size wr w1) (hg : wr.heap.size ≤ g') (hr : Dg w1 g' nr' (below1 (da i) dr)) (hda : da i < 65536) (hD : D ≤ 65536 ^ m)
    (hn : nr' = 1 + nr ∨ nr' = m + 1 ∧ nr' ≤ 1 + nr) (hl : nr' ≤ m + 1) : DivR w n m i 16 da q D Q g' nr' (below1 (da i) dr) w1 := by
  have hlt := h.out.1
  have hless := h.less
  rw [Nat.pow_zero, Nat.one_mul] at hless
  have hv : vd (below1 (da i) dr) (1 + nr) = da i + 65536 * vd dr nr := by rw [Nat.add_comm 1 nr]; exact vd_below1 _ _ _
  have hlim : da i + 65536 * vd dr nr < 65536 * D := by omega
  have hv2 : vd (below1 (da i) dr) nr' = da i + 65536 * vd dr nr := by
    rcases hn with rfl | ⟨rfl, hle⟩
    · exact hv
    · rw [← hv]
      refine (vd_full (m + 1) (1 + nr) (vd_small ?_) hle).symm
      rw [hv, Nat.pow_succ, Nat.mul_comm (65536 ^ m)]
      exact Nat.lt_of_lt_of_le hlim (Nat.mul_le_mul_left _ hD)
  have hle2 : nr' ≤ nr + 1 := by rcases hn with rfl | ⟨-, h⟩ <;> omega
  refine ⟨h.old.trans (hb.mono h.old.size), hr, by have := h.old.size; have := h.hQ; omega, h.hQ, fun j hj => below1_lt hda h.restl j (by omega), hl, h.out.below hb, h.outl, fun j hj => h.todo j (by omega), by rw [h.todo i (by omega)], ?_, ?_⟩
  · have hs := h.sum
    rw [hv2, ← hs]
    simp only [vd]
    rw [Nat.mul_add, Nat.pow_succ, Nat.mul_assoc, Nat.add_assoc (vd da i)]
  · rw [hv2]; exact hlim
theorem dg_one (w : World) (x : Nat) : Dg (w.alloc (.cells #[.int .u64 (x : Nat)] 59)) w.heap.size 1 (fun _ => x) :=
  ⟨by simp, fun j hj => by obtain rfl : j = 0 := (by omega); exact (cell_of_row _ _ 0 _ _ _ (heap_alloc_new _ _)).trans rfl⟩

theorem news_dl {w : World} {g nr : Nat} {dr : Nat → Nat} (h : Dg w g nr dr) : ∀ j u, (dl dr nr)[j]? = some u → w.cell? ((⟨g, 0, none⟩ : Addr).add j) = some u := fun j u hj => by
  have hj2 : j < nr := by
    have := (List.getElem?_eq_some_iff.1 hj).1
    rwa [dl_len] at this
  rw [dl_at _ _ _ hj2] at hj
  cases hj
  have h := h.2 j hj2
  cases j with
  | zero => simpa [Addr.add] using h
  | succ j => simpa [Addr.add] using h
theorem one_dl (dr : Nat → Nat) (nr : Nat) : ∀ u ∈ dl dr nr, u.oneCell' = true := fun u hu => by
  unfold dl at hu
  rw [List.mem_map] at hu
  obtain ⟨j, -, rfl⟩ := hu
  rfl

/-- What Divide leaves. -/
def DivPostR (n m : Nat) (A D : Nat) (w : World) (e : Ending) (w' : World) : Prop :=
  ∃ (Q g nr cap : Nat) (q dr : Nat → Nat), e = .returned (.tuple #[.slice (some ⟨Q, 0, none⟩) n n, .slice (some ⟨g, 0, none⟩) nr cap]) ∧ Dg w' Q n q ∧ Dg w' g nr dr ∧ nr ≤ m + 1 ∧ (∀ j, j < n → q j < 65536) ∧ (∀ j, j < nr → dr j < 65536) ∧ vd q n = A / D ∧ vd dr nr = A % D ∧ Below w.heap.size w w'
theorem div_done {w wr : World} {n m D Q g nr : Nat} {da q dr : Nat → Nat} (h : DivR w n m 0 0 da q D Q g nr dr wr) : vd q n = vd da n / D ∧ vd dr nr = vd da n % D := by
  have h1 := h.sum
  have h2 := h.less
  simp only [vd, Nat.pow_zero, Nat.one_mul, Nat.zero_add] at h1 h2
  constructor
  · rw [← h1, Nat.add_comm, Nat.mul_comm, Nat.add_mul_div_left _ _ (by omega), Nat.div_eq_of_lt h2, Nat.zero_add]
  · rw [← h1, Nat.add_comm, Nat.mul_comm, Nat.add_mul_mod_self_left, Nat.mod_eq_of_lt h2]

set_option maxRecDepth 100000 in
set_option maxHeartbeats 4000000 in
theorem divide_ref (ba ca bb cb n m : Nat) (da db : Nat → Nat) (hn : (n : Int) ≤ 1000) (hm : (m : Int) ≤ 1000) (ha : ∀ j, j < n → da j < 65536) (hb : ∀ j, j < m → db j < 65536) (hD : 0 < vd db m) (w : World) (hA : Dg w ba n da) (hB : Dg w bb m db) :
    Calls Try.prog 70 #[.slice (some ⟨ba, 0, none⟩) n ca, .slice (some ⟨bb, 0, none⟩) m cb] w (DivPostR n m (vd da n) (vd db m) w) := by
  have Ha := Lib.hid ha; clear ha
  have hDm := Nat.le_of_lt (vd_lt hb)
  have Hb := Lib.hid hb; clear hb
  have HA := Lib.hid hA; clear hA
  have HB := Lib.hid hB; clear hB
  have HD := Lib.hid hD; clear hD
  have HDM := Lib.hid hDm; clear hDm
  have hn0 : (0 : Int) ≤ n := by omega
  have hm0 : (0 : Int) ≤ m := by omega
  obtain ⟨i0, hi, hz0, hz1, hz2⟩ := info_parts info22
  go_enter Try.func70, Try.ntmps70
  go_wp2_with (at_make; refine wpList_make_full _ rfl _ _ 56 rfl w.heap.size 59 i0 (.int .u64 0) 1 Try.underlying56 hi hz0 hz1 .i64 .i64 _ _ n rfl rfl rfl rfl (by rw [hz2]; omega) (by unfold maxLen; omega) (Nat.le_refl _) ?_; intro w0 hown0 hgrow0)
  have hout : OutAt w0 w.heap.size n (fun _ => 0) := ⟨(hown0.lt _ rfl).2, fun j hj => ⟨(hown0.cellAt j (by omega)).trans (madeCells_at n j hj), hown0.frozenAt j⟩⟩
  have hbel : Below w.heap.size w w0 := (Below.refl _ _).grown hgrow0 (Nat.le_refl _) (fun k hk => by cases hk)
  have hlt0 := hout.1
  have HW := Lib.hid (And.intro hout hbel)
  clear hout hbel hown0 hgrow0
  go_wp2_with fail
  go_loopw [7, 8] (fun rv iv wr => ∃ (z : Int) (c g nr cap : Nat) (q dr : Nat → Nat), c ≤ n ∧ z = (c : Int) - 1 ∧ iv = .int .i64 z ∧ rv = .slice (some ⟨g, 0, none⟩) nr cap ∧ Hid (DivR w n m c 0 da q (vd db m) w.heap.size g nr dr wr)) (fun _ iv _ => (intOf iv + 1).toNat)
  case atStart =>
    refine ⟨(n : Int) - 1, n, w0.heap.size, 0, 0, fun _ => 0, fun _ => 0, Nat.le_refl _, rfl, rfl, rfl, Lib.hid ⟨HW.out.2.trans (by go_grown), ⟨by simp, fun j hj => by omega⟩, hlt0, rfl, fun j hj => by omega, by omega, HW.out.1.below (by go_grown), fun j _ => by show 0 < 65536; omega, fun _ _ => rfl, rfl, ?_, ?_⟩⟩
    · have : ∀ L, vd (fun _ => 0) L = 0 := fun L => by induction L with
        | zero => rfl
        | succ L ih => simp [vd, ih]
      rw [this]; simp [vd]
    · show 0 < _; rw [Nat.pow_zero, Nat.one_mul]; exact HD.out
  case round =>
    obtain ⟨z, c, g, nr, cap, q, dr, hc, hz, rfl, rfl, H⟩ := hrel
    cases c with
    | zero =>
      have hz1 : z < 0 := by omega
      have hzf : decide (0 ≤ z) = false := by rw [decide_eq_false_iff_not]; omega
      have hd := div_done H.out
      have HF := Lib.hid hd; clear hd
      have HZ := Lib.hid hz; clear hz
      go_wp2
      go_ret2
      exact ⟨_, _, _, _, q, dr, rfl, ⟨H.out.out.1, fun j hj => (H.out.out.2 j hj).1⟩, H.out.rest, H.out.long, H.out.outl, H.out.restl, HF.out.1, HF.out.2, H.out.old⟩
    | succ i =>
      obtain rfl : z = (i : Int) := by omega
      have hi0 : (0 : Int) ≤ i := by omega
      have hin : (i : Int) < n := by omega
      have hnr : (nr : Int) ≤ m + 1 := by have := H.out.long; omega
      have hnr0 : (0 : Int) ≤ nr := by omega
      have ea : wr.cell? ⟨ba, i, none⟩ = some (.int .u64 (da i : Nat)) := (H.out.old.cell (p := ⟨ba, i, none⟩) HA.out.1).trans (HA.out.2 i (by omega))
      have HEN := Lib.hid (own_one wr (da i))
      clear hz
      go_wp2_with (at_builtin; refine wpList_append_own _ rfl (.tmp 26) (.tmp 27) 56 rfl wr.heap.size 59 i0 (.int .u64 0) 1 8 Try.underlying56 hi hz0 hz1 hz2 rfl (by decide) _ _ _ rfl HEN.out ⟨g, 0, none⟩ nr cap (dl dr nr) rfl (by rw [dl_len, Nat.mul_one]) ?d1 ?d2 ?d3 ?d4 ?d5 ?_)
      try (case d1 => exact news_dl (H.out.rest.below ((Below.refl wr.heap.size wr).alloc (Nat.le_refl _) (.cells #[.int .u64 (da i : Nat)] 59))))
      try (case d2 => exact one_dl _ _)
      try (case d3 => unfold maxLen; omega)
      try (case d4 => omega)
      try (case d5 => first | omega | (simp; done) | (simp; omega))
      intro v' w1 hown' hgrow _
      rw [dl_below1] at hown'
      obtain ⟨g', cap', rfl, hg', hcap', hdg'⟩ := own_dg hown' (by omega)
      have hbw : Below wr.heap.size wr w1 := ((Below.refl _ _).alloc (Nat.le_refl _) _).grown hgrow (by simp) (fun j hj => by cases hj; exact Nat.le_refl _)
      have HN := Lib.hid (And.intro hbw (And.intro hg' hdg'))
      clear hown' hgrow hg' hdg' hbw HEN ea
      have hda : da i < 65536 := Ha.out i (by omega)
      by_cases ht : m + 1 < 1 + nr
      · have ht1 : (m : Int) + 1 < 1 + (nr : Int) := by omega
        have ht2 : decide ((m : Int) + 1 < 1 + (nr : Int)) = true := by rw [decide_eq_true_iff]; exact ht1
        have hsl := slice_head g' (1 + nr) cap' m (by omega)
        have HI := Lib.hid (div_open H.out HN.out.1 HN.out.2.1 ⟨HN.out.2.2.1, fun j hj => HN.out.2.2.2 j (by omega)⟩ hda HDM.out (.inr ⟨rfl, by omega⟩) (Nat.le_refl (m + 1)))
        clear ht hda
        go_wp2_with fail
        go_loopw [7, 9] (fun rv kv wx => ∃ (z : Int) (c g nr cap : Nat) (q dr : Nat → Nat), c ≤ 16 ∧ z = (c : Int) - 1 ∧ kv = .int .i64 z ∧ rv = .slice (some ⟨g, 0, none⟩) nr cap ∧ 0 < nr ∧ Hid (DivR w n m i c da q (vd db m) w.heap.size g nr dr wx)) (fun _ kv _ => (intOf kv + 1).toNat)
        case atStart => exact ⟨15, 16, g', (m + 1), cap', q, below1 (da i) dr, by omega, rfl, rfl, rfl, by omega, HI⟩
        case round =>
          obtain ⟨z, c2, g2, nr2, cap2, q2, dr2, hc2, hz2, rfl, rfl, hnr2, H2⟩ := hrel
          cases c2 with
          | zero =>
            have hz1 : z < 0 := by omega
            have hzf : decide (0 ≤ z) = false := by rw [decide_eq_false_iff_not]; omega
            have HZ := Lib.hid hz2; clear hz2
            go_wp2_with fail
            go_roundw
            case rel => exact ⟨(i : Int) - 1, i, g2, nr2, cap2, q2, dr2, by omega, rfl, rfl, rfl, H2⟩
            case measure => first | (simp [intOf]; done) | (simp [intOf]; omega)
          | succ k =>
            obtain rfl : z = (k : Int) := by omega
            have hk0 : (0 : Int) ≤ k := by omega
            have hk1 : (k : Int) ≤ 15 := by omega
            clear hz2
            obtain ⟨p, hp⟩ : ∃ p : Nat, 2 ^ k = p := ⟨_, rfl⟩
            have hpl : p < 65536 := by rw [← hp, show (65536 : Nat) = 2 ^ 16 by rfl]; exact Nat.pow_lt_pow_right (by omega) (by omega)
            have hpw : IntKind.u64.wrap ((2 : Int) ^ k) = (p : Int) := by
              have e0 : ((2 ^ k : Nat) : Int) = (2 : Int) ^ k := by simp
              rw [← e0, hp, IntKind.wrap_u64]; omega
            have hqi := H2.out.out.2 i (by omega)
            have hor : bits .or .u64 ((q2 i : Nat) : Int) (p : Int) = ((q2 i + p : Nat) : Int) := by
              have h := bits_or_up H2.out.bits (H2.out.outl i (by omega)) (by omega)
              have e0 : ((2 ^ k : Nat) : Int) = (2 : Int) ^ k := by simp
              rw [← e0, hp] at h; exact h
            have HOR := Lib.hid hor; clear hor
            have HQI := Lib.hid hqi; clear hqi
            have HPL := Lib.hid hpl; clear hpl
            have HP := Lib.hid hp; clear hp
            have hlw : w.heap.size < wr.heap.size := H2.out.out.1
            go_wp2_with fail
            refine (product_digits bb cb wr.heap.size 1 m 1 db (fun _ => p) (by omega) (by omega) Hb.out (fun _ _ => HPL.out) _ (HB.out.below (H2.out.old.trans ((Below.refl _ _).alloc (by omega) _))) (dg_one wr p)).mono ?_
            rintro e w2 ⟨bt, capt, dt, rfl, hbt, hDt, hdtl, hdtv, hbp⟩
            have hvt : vd dt (m + 1) = 2 ^ k * vd db m := by rw [hdtv, HP.out]; simp [vd, Nat.mul_comm]
            have hb1 : Below wr.heap.size wr w2 := ((Below.refl _ _).alloc (Nat.le_refl _) _).trans (hbp.mono (by simp))
            have HT := Lib.hid (And.intro hDt (And.intro hdtl (And.intro hvt hb1)))
            clear hbt hDt hdtl hdtv hbp hvt hb1
            have HR2 := Lib.hid (H2.out.rest.below HT.out.2.2.2)
            have hnl : (nr2 : Int) ≤ m + 1 := by have := H2.out.long; omega
            by_cases hle : 2 ^ k * vd db m ≤ vd dr2 nr2
            · have hbo : decide (vd dr2 nr2 < vd dt (m + 1)) = false := by rw [decide_eq_false_iff_not, HT.out.2.2.1]; omega
              have HLE := Lib.hid hle; clear hle
              go_wp2_with fail
              refine (less_any g2 cap2 bt capt nr2 (m + 1) dr2 dt (by omega) (by omega) H2.out.restl HT.out.2.1 w2 HR2.out HT.out.1).mono ?_
              rintro e w3 ⟨rfl, rfl⟩
              rw [hbo]
              go_wp2_with fail
              refine (minus_any g2 cap2 bt capt nr2 (m + 1) dr2 dt hnr2 (by omega) (by omega) H2.out.restl HT.out.2.1 (by rw [HT.out.2.2.1]; exact HLE.out) w2 HR2.out HT.out.1).mono ?_
              rintro e w4 ⟨b4, cap4, d4, rfl, hb4, hD4, hd4l, hd4v, hbm⟩
              have hb2 : Below wr.heap.size wr w4 := HT.out.2.2.2.trans (hbm.mono HT.out.2.2.2.size)
              have hcq : w4.cell? ⟨w.heap.size, i, none⟩ = some (.int .u64 (q2 i : Nat)) := (hb2.cell (p := ⟨w.heap.size, i, none⟩) hlw).trans HQI.out.1
              have hfq : w4.frozen? ⟨w.heap.size, i, none⟩ = false := (hb2.frozen (p := ⟨w.heap.size, i, none⟩) hlw).trans HQI.out.2
              have hone := H2.out.one (w' := w4) (g' := b4) (dr' := d4) (by omega) (by omega) hb2 HLE.out hD4 (Nat.le_trans HT.out.2.2.2.size hb4) hd4l (by rw [hd4v, HT.out.2.2.1])
              rw [HP.out] at hone
              have HONE := Lib.hid hone; clear hone hb4 hD4 hd4l hd4v hbm hb2
              go_wp2_with fail
              rw [HOR.out]
              go_roundw
              case rel => exact ⟨(k : Int) - 1, k, b4, nr2, cap4, _, d4, by omega, rfl, rfl, rfl, hnr2, HONE⟩
              case measure => first | (simp [intOf]; done) | (simp [intOf]; omega)
            · have hbo : decide (vd dr2 nr2 < vd dt (m + 1)) = true := by rw [decide_eq_true_iff, HT.out.2.2.1]; omega
              have HZ := Lib.hid (H2.out.zero HT.out.2.2.2 hle)
              clear hle
              go_wp2_with fail
              refine (less_any g2 cap2 bt capt nr2 (m + 1) dr2 dt (by omega) (by omega) H2.out.restl HT.out.2.1 w2 HR2.out HT.out.1).mono ?_
              rintro e w3 ⟨rfl, rfl⟩
              rw [hbo]
              go_wp2_with fail
              go_roundw
              case rel => exact ⟨(k : Int) - 1, k, g2, nr2, cap2, q2, dr2, by omega, rfl, rfl, rfl, hnr2, HZ⟩
              case measure => first | (simp [intOf]; done) | (simp [intOf]; omega)
      · have ht1 : ¬ (m : Int) + 1 < 1 + (nr : Int) := by omega
        have ht2 : decide ((m : Int) + 1 < 1 + (nr : Int)) = false := by rw [decide_eq_false_iff_not]; exact ht1
        have HI := Lib.hid (div_open H.out HN.out.1 HN.out.2.1 HN.out.2.2 hda HDM.out (.inl rfl) (by omega))
        clear ht hda
        go_wp2_with fail
        go_loopw [7, 9] (fun rv kv wx => ∃ (z : Int) (c g nr cap : Nat) (q dr : Nat → Nat), c ≤ 16 ∧ z = (c : Int) - 1 ∧ kv = .int .i64 z ∧ rv = .slice (some ⟨g, 0, none⟩) nr cap ∧ 0 < nr ∧ Hid (DivR w n m i c da q (vd db m) w.heap.size g nr dr wx)) (fun _ kv _ => (intOf kv + 1).toNat)
        case atStart => exact ⟨15, 16, g', (1 + nr), cap', q, below1 (da i) dr, by omega, rfl, rfl, rfl, by omega, HI⟩
        case round =>
          obtain ⟨z, c2, g2, nr2, cap2, q2, dr2, hc2, hz2, rfl, rfl, hnr2, H2⟩ := hrel
          cases c2 with
          | zero =>
            have hz1 : z < 0 := by omega
            have hzf : decide (0 ≤ z) = false := by rw [decide_eq_false_iff_not]; omega
            have HZ := Lib.hid hz2; clear hz2
            go_wp2_with fail
            go_roundw
            case rel => exact ⟨(i : Int) - 1, i, g2, nr2, cap2, q2, dr2, by omega, rfl, rfl, rfl, H2⟩
            case measure => first | (simp [intOf]; done) | (simp [intOf]; omega)
          | succ k =>
            obtain rfl : z = (k : Int) := by omega
            have hk0 : (0 : Int) ≤ k := by omega
            have hk1 : (k : Int) ≤ 15 := by omega
            clear hz2
            obtain ⟨p, hp⟩ : ∃ p : Nat, 2 ^ k = p := ⟨_, rfl⟩
            have hpl : p < 65536 := by rw [← hp, show (65536 : Nat) = 2 ^ 16 by rfl]; exact Nat.pow_lt_pow_right (by omega) (by omega)
            have hpw : IntKind.u64.wrap ((2 : Int) ^ k) = (p : Int) := by
              have e0 : ((2 ^ k : Nat) : Int) = (2 : Int) ^ k := by simp
              rw [← e0, hp, IntKind.wrap_u64]; omega
            have hqi := H2.out.out.2 i (by omega)
            have hor : bits .or .u64 ((q2 i : Nat) : Int) (p : Int) = ((q2 i + p : Nat) : Int) := by
              have h := bits_or_up H2.out.bits (H2.out.outl i (by omega)) (by omega)
              have e0 : ((2 ^ k : Nat) : Int) = (2 : Int) ^ k := by simp
              rw [← e0, hp] at h; exact h
            have HOR := Lib.hid hor; clear hor
            have HQI := Lib.hid hqi; clear hqi
            have HPL := Lib.hid hpl; clear hpl
            have HP := Lib.hid hp; clear hp
            have hlw : w.heap.size < wr.heap.size := H2.out.out.1
            go_wp2_with fail
            refine (product_digits bb cb wr.heap.size 1 m 1 db (fun _ => p) (by omega) (by omega) Hb.out (fun _ _ => HPL.out) _ (HB.out.below (H2.out.old.trans ((Below.refl _ _).alloc (by omega) _))) (dg_one wr p)).mono ?_
            rintro e w2 ⟨bt, capt, dt, rfl, hbt, hDt, hdtl, hdtv, hbp⟩
            have hvt : vd dt (m + 1) = 2 ^ k * vd db m := by rw [hdtv, HP.out]; simp [vd, Nat.mul_comm]
            have hb1 : Below wr.heap.size wr w2 := ((Below.refl _ _).alloc (Nat.le_refl _) _).trans (hbp.mono (by simp))
            have HT := Lib.hid (And.intro hDt (And.intro hdtl (And.intro hvt hb1)))
            clear hbt hDt hdtl hdtv hbp hvt hb1
            have HR2 := Lib.hid (H2.out.rest.below HT.out.2.2.2)
            have hnl : (nr2 : Int) ≤ m + 1 := by have := H2.out.long; omega
            by_cases hle : 2 ^ k * vd db m ≤ vd dr2 nr2
            · have hbo : decide (vd dr2 nr2 < vd dt (m + 1)) = false := by rw [decide_eq_false_iff_not, HT.out.2.2.1]; omega
              have HLE := Lib.hid hle; clear hle
              go_wp2_with fail
              refine (less_any g2 cap2 bt capt nr2 (m + 1) dr2 dt (by omega) (by omega) H2.out.restl HT.out.2.1 w2 HR2.out HT.out.1).mono ?_
              rintro e w3 ⟨rfl, rfl⟩
              rw [hbo]
              go_wp2_with fail
              refine (minus_any g2 cap2 bt capt nr2 (m + 1) dr2 dt hnr2 (by omega) (by omega) H2.out.restl HT.out.2.1 (by rw [HT.out.2.2.1]; exact HLE.out) w2 HR2.out HT.out.1).mono ?_
              rintro e w4 ⟨b4, cap4, d4, rfl, hb4, hD4, hd4l, hd4v, hbm⟩
              have hb2 : Below wr.heap.size wr w4 := HT.out.2.2.2.trans (hbm.mono HT.out.2.2.2.size)
              have hcq : w4.cell? ⟨w.heap.size, i, none⟩ = some (.int .u64 (q2 i : Nat)) := (hb2.cell (p := ⟨w.heap.size, i, none⟩) hlw).trans HQI.out.1
              have hfq : w4.frozen? ⟨w.heap.size, i, none⟩ = false := (hb2.frozen (p := ⟨w.heap.size, i, none⟩) hlw).trans HQI.out.2
              have hone := H2.out.one (w' := w4) (g' := b4) (dr' := d4) (by omega) (by omega) hb2 HLE.out hD4 (Nat.le_trans HT.out.2.2.2.size hb4) hd4l (by rw [hd4v, HT.out.2.2.1])
              rw [HP.out] at hone
              have HONE := Lib.hid hone; clear hone hb4 hD4 hd4l hd4v hbm hb2
              go_wp2_with fail
              rw [HOR.out]
              go_roundw
              case rel => exact ⟨(k : Int) - 1, k, b4, nr2, cap4, _, d4, by omega, rfl, rfl, rfl, hnr2, HONE⟩
              case measure => first | (simp [intOf]; done) | (simp [intOf]; omega)
            · have hbo : decide (vd dr2 nr2 < vd dt (m + 1)) = true := by rw [decide_eq_true_iff, HT.out.2.2.1]; omega
              have HZ := Lib.hid (H2.out.zero HT.out.2.2.2 hle)
              clear hle
              go_wp2_with fail
              refine (less_any g2 cap2 bt capt nr2 (m + 1) dr2 dt (by omega) (by omega) H2.out.restl HT.out.2.1 w2 HR2.out HT.out.1).mono ?_
              rintro e w3 ⟨rfl, rfl⟩
              rw [hbo]
              go_wp2_with fail
              go_roundw
              case rel => exact ⟨(k : Int) - 1, k, g2, nr2, cap2, q2, dr2, by omega, rfl, rfl, rfl, hnr2, HZ⟩
              case measure => first | (simp [intOf]; done) | (simp [intOf]; omega)
end Go.Proofs.Ytgegkffigjogcaa

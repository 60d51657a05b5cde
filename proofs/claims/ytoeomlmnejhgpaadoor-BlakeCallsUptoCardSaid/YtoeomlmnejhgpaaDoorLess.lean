/- What bailiwickref01.Less comes to, called with any two slices of digits. -/
import Derived.Test.YtoeomlmnejhgpaaDoorDg
namespace Go.Proofs.YtoeomlmnejhgpaaDoor
open Go.RowKit

theorem vd_ge (d : Nat → Nat) (k : Nat) : 65536 ^ k * d k ≤ vd d (k + 1) := by simp only [vd]; omega
/-- The highest digit that parts two numbers decides. -/
theorem less_top {a b : Nat → Nat} {k : Nat} (ha : ∀ j, j < k → a j < 65536) (_hb : ∀ j, j < k → b j < 65536) (h : a k < b k) : vd a (k + 1) < vd b (k + 1) := by
  have h1 := vd_lt ha
  simp only [vd]
  have h2 : 65536 ^ k * a k + 65536 ^ k ≤ 65536 ^ k * b k := by
    have := Nat.mul_le_mul_left (65536 ^ k) (show a k + 1 ≤ b k by omega)
    rwa [Nat.mul_add, Nat.mul_one] at this
  omega
theorem vd_same_above {a b : Nat → Nat} (k : Nat) : ∀ N, k ≤ N → (∀ j, k ≤ j → j < N → a j = b j) → vd a N + vd b k = vd b N + vd a k := by
  intro N hN h
  induction N with
  | zero => obtain rfl : k = 0 := by omega
            rfl
  | succ N ih =>
    by_cases e : k = N + 1
    · subst e; omega
    · have := ih (by omega) (fun j h1 h2 => h j h1 (by omega))
      simp only [vd]
      rw [h N (by omega) (by omega)]
      omega

set_option maxRecDepth 100000 in
set_option maxHeartbeats 4000000 in
theorem less_any (ba ca bb cb n m : Nat) (da db : Nat → Nat) (hn : (n : Int) ≤ 1000000) (hm : (m : Int) ≤ 1000000) (ha : ∀ j, j < n → da j < 65536) (hb : ∀ j, j < m → db j < 65536) (w : World) (hA : Dg w ba n da) (hB : Dg w bb m db) :
    Calls Tryd.prog 89 #[.slice (some ⟨ba, 0, none⟩) n ca, .slice (some ⟨bb, 0, none⟩) m cb] w fun e w' => e = .returned (.bool (decide (vd da n < vd db m))) ∧ w = w' := by
  have en := vd_pad da n (max n m) (by omega)
  have em := vd_pad db m (max n m) (by omega)
  rw [← en, ← em]
  clear en em
  have Pa : Hid (∀ j, pad da n j < 65536) := Lib.hid (fun j => by unfold pad; split; exact ha j (by omega); omega)
  have Pb : Hid (∀ j, pad db m j < 65536) := Lib.hid (fun j => by unfold pad; split; exact hb j (by omega); omega)
  have Ha := Lib.hid ha; clear ha
  have Hb := Lib.hid hb; clear hb
  have HA := Lib.hid hA; clear hA
  have HB := Lib.hid hB; clear hB
  have hn0 : (0 : Int) ≤ n := by omega
  have hm0 : (0 : Int) ≤ m := by omega
  obtain ⟨R, hR⟩ : ∃ R, decide (vd (pad da n) (max n m) < vd (pad db m) (max n m)) = R := ⟨_, rfl⟩
  rw [hR]
  have HR := Lib.hid hR; clear hR
  by_cases hnm : n < m
  · have hcmp : (n : Int) < (m : Int) := by omega
    obtain ⟨N, hN⟩ : ∃ N, max n m = N := ⟨_, rfl⟩
    have HN := Lib.hid hN; clear hN
    go_enter Tryd.func89, Tryd.ntmps89
    go_wp2
    go_loop [6] (fun i => ∃ k : Nat, k ≤ N ∧ i = .int .i64 ((k : Int) - 1) ∧ Hid (∀ j, k ≤ j → j < N → pad da n j = pad db m j)) (fun i => (intOf i + 1).toNat)
    case atStart => exact ⟨N, Nat.le_refl _, by have := HN.out; first | (rw [show N = m by omega]) | rfl, Lib.hid (fun j h1 h2 => by omega)⟩
    case round =>
      obtain ⟨k, hk, rfl, HE⟩ := hrel
      have hNb : N ≤ 1000000 := by have := HN.out; omega
      have hk1 : (k : Int) ≤ 1000000 := by omega
      rcases k with _ | k
      · go_wp2
        go_ret
        refine ⟨?_, rfl⟩
        rw [← HR.out, HN.out]
        have h := vd_same_above 0 N (Nat.zero_le _) (fun j _ h2 => HE.out j (Nat.zero_le _) h2)
        simp only [vd] at h
        rw [show decide (vd (pad da n) N < vd (pad db m) N) = false by rw [decide_eq_false_iff_not]; omega]
        rfl
      · have e1 : ((k + 1 : Nat) : Int) - 1 = (k : Int) := by omega
        rw [e1]
        have hk0 : (0 : Int) ≤ k := by omega
        have hk2 : (k : Int) ≤ 1000000 := by omega
        have hge : ∀ (x y : Nat), pad da n k = x → pad db m k = y → x ≠ y → R = decide (x < y) := fun x y hx hy hne => by
          rw [← HR.out, HN.out]
          have h := vd_same_above (k + 1) N (by omega) (fun j h1 h2 => HE.out j h1 h2)
          by_cases hlt : x < y
          · have := less_top (a := pad da n) (b := pad db m) (k := k) (fun j _ => Pa.out j) (fun j _ => Pb.out j) (by rw [hx, hy]; exact hlt)
            rw [decide_eq_true hlt, decide_eq_true (by omega)]
          · have := less_top (a := pad db m) (b := pad da n) (k := k) (fun j _ => Pb.out j) (fun j _ => Pa.out j) (by rw [hx, hy]; omega)
            rw [decide_eq_false hlt, decide_eq_false (by omega)]
        have HG := Lib.hid hge; clear hge e1
        by_cases h1 : k < n
        · by_cases h2 : k < m
          · have xa : w.cell? ⟨ba, k, none⟩ = some (.int .u64 (da k : Nat)) := HA.out.2 k (by omega)
            have hka : (k : Int) < (n : Int) := by omega
            have pa : pad da n k = da k := by unfold pad; rw [if_pos (by omega)]
            have xb : w.cell? ⟨bb, k, none⟩ = some (.int .u64 (db k : Nat)) := HB.out.2 k (by omega)
            have hkb : (k : Int) < (m : Int) := by omega
            have pb : pad db m k = db k := by unfold pad; rw [if_pos (by omega)]
            have PA := Lib.hid pa; clear pa
            have PB := Lib.hid pb; clear pb
            by_cases he : da k = db k
            · have hb1 : (((da k : Nat) : Int) == ((db k : Nat) : Int)) = true := by simp; omega
              have hb2 : (((da k : Nat) : Int) != ((db k : Nat) : Int)) = false := by simp; omega
              have HE2 := Lib.hid he; clear he
              go_wp2
              go_round
              case rel =>
                refine ⟨k, by omega, rfl, Lib.hid (fun j h1 h2 => ?_)⟩
                by_cases hj : j = k
                · subst hj; rw [PA.out, PB.out, HE2.out]
                · exact HE.out j (by omega) h2
              case measure => simp [intOf]
            · have hb1 : (((da k : Nat) : Int) == ((db k : Nat) : Int)) = false := by simp; omega
              have hb2 : (((da k : Nat) : Int) != ((db k : Nat) : Int)) = true := by simp; omega
              have hr := HG.out _ _ PA.out PB.out he
              have HRR := Lib.hid hr; clear hr he
              go_wp2
              go_ret
              refine ⟨?_, rfl⟩
              rw [HRR.out]
              try simp
          · have xa : w.cell? ⟨ba, k, none⟩ = some (.int .u64 (da k : Nat)) := HA.out.2 k (by omega)
            have hka : (k : Int) < (n : Int) := by omega
            have pa : pad da n k = da k := by unfold pad; rw [if_pos (by omega)]
            have hkb : ¬ (k : Int) < (m : Int) := by omega
            have pb : pad db m k = 0 := by unfold pad; rw [if_neg (by omega)]
            have PA := Lib.hid pa; clear pa
            have PB := Lib.hid pb; clear pb
            by_cases he : da k = 0
            · have hb1 : (((da k : Nat) : Int) == (0 : Int)) = true := by simp; omega
              have hb2 : (((da k : Nat) : Int) != (0 : Int)) = false := by simp; omega
              have HE2 := Lib.hid he; clear he
              go_wp2
              go_round
              case rel =>
                refine ⟨k, by omega, rfl, Lib.hid (fun j h1 h2 => ?_)⟩
                by_cases hj : j = k
                · subst hj; rw [PA.out, PB.out, HE2.out]
                · exact HE.out j (by omega) h2
              case measure => simp [intOf]
            · have hb1 : (((da k : Nat) : Int) == (0 : Int)) = false := by simp; omega
              have hb2 : (((da k : Nat) : Int) != (0 : Int)) = true := by simp; omega
              have hr := HG.out _ _ PA.out PB.out he
              have HRR := Lib.hid hr; clear hr he
              go_wp2
              go_ret
              refine ⟨?_, rfl⟩
              rw [HRR.out]
              try simp
        · have h2 : k < m := by have := HN.out; omega
          have hka : ¬ (k : Int) < (n : Int) := by omega
          have pa : pad da n k = 0 := by unfold pad; rw [if_neg (by omega)]
          have xb : w.cell? ⟨bb, k, none⟩ = some (.int .u64 (db k : Nat)) := HB.out.2 k (by omega)
          have hkb : (k : Int) < (m : Int) := by omega
          have pb : pad db m k = db k := by unfold pad; rw [if_pos (by omega)]
          have PA := Lib.hid pa; clear pa
          have PB := Lib.hid pb; clear pb
          by_cases he : 0 = db k
          · have hb1 : ((0 : Int) == ((db k : Nat) : Int)) = true := by simp; omega
            have hb2 : ((0 : Int) != ((db k : Nat) : Int)) = false := by simp; omega
            have HE2 := Lib.hid he; clear he
            go_wp2
            go_round
            case rel =>
              refine ⟨k, by omega, rfl, Lib.hid (fun j h1 h2 => ?_)⟩
              by_cases hj : j = k
              · subst hj; rw [PA.out, PB.out, HE2.out]
              · exact HE.out j (by omega) h2
            case measure => simp [intOf]
          · have hb1 : ((0 : Int) == ((db k : Nat) : Int)) = false := by simp; omega
            have hb2 : ((0 : Int) != ((db k : Nat) : Int)) = true := by simp; omega
            have hr := HG.out _ _ PA.out PB.out he
            have HRR := Lib.hid hr; clear hr he
            go_wp2
            go_ret
            refine ⟨?_, rfl⟩
            rw [HRR.out]
            try simp
  · have hcmp : ¬ (n : Int) < (m : Int) := by omega
    obtain ⟨N, hN⟩ : ∃ N, max n m = N := ⟨_, rfl⟩
    have HN := Lib.hid hN; clear hN
    go_enter Tryd.func89, Tryd.ntmps89
    go_wp2
    go_loop [6] (fun i => ∃ k : Nat, k ≤ N ∧ i = .int .i64 ((k : Int) - 1) ∧ Hid (∀ j, k ≤ j → j < N → pad da n j = pad db m j)) (fun i => (intOf i + 1).toNat)
    case atStart => exact ⟨N, Nat.le_refl _, by have := HN.out; first | (rw [show N = n by omega]) | rfl, Lib.hid (fun j h1 h2 => by omega)⟩
    case round =>
      obtain ⟨k, hk, rfl, HE⟩ := hrel
      have hNb : N ≤ 1000000 := by have := HN.out; omega
      have hk1 : (k : Int) ≤ 1000000 := by omega
      rcases k with _ | k
      · go_wp2
        go_ret
        refine ⟨?_, rfl⟩
        rw [← HR.out, HN.out]
        have h := vd_same_above 0 N (Nat.zero_le _) (fun j _ h2 => HE.out j (Nat.zero_le _) h2)
        simp only [vd] at h
        rw [show decide (vd (pad da n) N < vd (pad db m) N) = false by rw [decide_eq_false_iff_not]; omega]
        rfl
      · have e1 : ((k + 1 : Nat) : Int) - 1 = (k : Int) := by omega
        rw [e1]
        have hk0 : (0 : Int) ≤ k := by omega
        have hk2 : (k : Int) ≤ 1000000 := by omega
        have hge : ∀ (x y : Nat), pad da n k = x → pad db m k = y → x ≠ y → R = decide (x < y) := fun x y hx hy hne => by
          rw [← HR.out, HN.out]
          have h := vd_same_above (k + 1) N (by omega) (fun j h1 h2 => HE.out j h1 h2)
          by_cases hlt : x < y
          · have := less_top (a := pad da n) (b := pad db m) (k := k) (fun j _ => Pa.out j) (fun j _ => Pb.out j) (by rw [hx, hy]; exact hlt)
            rw [decide_eq_true hlt, decide_eq_true (by omega)]
          · have := less_top (a := pad db m) (b := pad da n) (k := k) (fun j _ => Pb.out j) (fun j _ => Pa.out j) (by rw [hx, hy]; omega)
            rw [decide_eq_false hlt, decide_eq_false (by omega)]
        have HG := Lib.hid hge; clear hge e1
        by_cases h1 : k < n
        · by_cases h2 : k < m
          · have xa : w.cell? ⟨ba, k, none⟩ = some (.int .u64 (da k : Nat)) := HA.out.2 k (by omega)
            have hka : (k : Int) < (n : Int) := by omega
            have pa : pad da n k = da k := by unfold pad; rw [if_pos (by omega)]
            have xb : w.cell? ⟨bb, k, none⟩ = some (.int .u64 (db k : Nat)) := HB.out.2 k (by omega)
            have hkb : (k : Int) < (m : Int) := by omega
            have pb : pad db m k = db k := by unfold pad; rw [if_pos (by omega)]
            have PA := Lib.hid pa; clear pa
            have PB := Lib.hid pb; clear pb
            by_cases he : da k = db k
            · have hb1 : (((da k : Nat) : Int) == ((db k : Nat) : Int)) = true := by simp; omega
              have hb2 : (((da k : Nat) : Int) != ((db k : Nat) : Int)) = false := by simp; omega
              have HE2 := Lib.hid he; clear he
              go_wp2
              go_round
              case rel =>
                refine ⟨k, by omega, rfl, Lib.hid (fun j h1 h2 => ?_)⟩
                by_cases hj : j = k
                · subst hj; rw [PA.out, PB.out, HE2.out]
                · exact HE.out j (by omega) h2
              case measure => simp [intOf]
            · have hb1 : (((da k : Nat) : Int) == ((db k : Nat) : Int)) = false := by simp; omega
              have hb2 : (((da k : Nat) : Int) != ((db k : Nat) : Int)) = true := by simp; omega
              have hr := HG.out _ _ PA.out PB.out he
              have HRR := Lib.hid hr; clear hr he
              go_wp2
              go_ret
              refine ⟨?_, rfl⟩
              rw [HRR.out]
              try simp
          · have xa : w.cell? ⟨ba, k, none⟩ = some (.int .u64 (da k : Nat)) := HA.out.2 k (by omega)
            have hka : (k : Int) < (n : Int) := by omega
            have pa : pad da n k = da k := by unfold pad; rw [if_pos (by omega)]
            have hkb : ¬ (k : Int) < (m : Int) := by omega
            have pb : pad db m k = 0 := by unfold pad; rw [if_neg (by omega)]
            have PA := Lib.hid pa; clear pa
            have PB := Lib.hid pb; clear pb
            by_cases he : da k = 0
            · have hb1 : (((da k : Nat) : Int) == (0 : Int)) = true := by simp; omega
              have hb2 : (((da k : Nat) : Int) != (0 : Int)) = false := by simp; omega
              have HE2 := Lib.hid he; clear he
              go_wp2
              go_round
              case rel =>
                refine ⟨k, by omega, rfl, Lib.hid (fun j h1 h2 => ?_)⟩
                by_cases hj : j = k
                · subst hj; rw [PA.out, PB.out, HE2.out]
                · exact HE.out j (by omega) h2
              case measure => simp [intOf]
            · have hb1 : (((da k : Nat) : Int) == (0 : Int)) = false := by simp; omega
              have hb2 : (((da k : Nat) : Int) != (0 : Int)) = true := by simp; omega
              have hr := HG.out _ _ PA.out PB.out he
              have HRR := Lib.hid hr; clear hr he
              go_wp2
              go_ret
              refine ⟨?_, rfl⟩
              rw [HRR.out]
              try simp
        · have h2 : k < m := by have := HN.out; omega
          have hka : ¬ (k : Int) < (n : Int) := by omega
          have pa : pad da n k = 0 := by unfold pad; rw [if_neg (by omega)]
          have xb : w.cell? ⟨bb, k, none⟩ = some (.int .u64 (db k : Nat)) := HB.out.2 k (by omega)
          have hkb : (k : Int) < (m : Int) := by omega
          have pb : pad db m k = db k := by unfold pad; rw [if_pos (by omega)]
          have PA := Lib.hid pa; clear pa
          have PB := Lib.hid pb; clear pb
          by_cases he : 0 = db k
          · have hb1 : ((0 : Int) == ((db k : Nat) : Int)) = true := by simp; omega
            have hb2 : ((0 : Int) != ((db k : Nat) : Int)) = false := by simp; omega
            have HE2 := Lib.hid he; clear he
            go_wp2
            go_round
            case rel =>
              refine ⟨k, by omega, rfl, Lib.hid (fun j h1 h2 => ?_)⟩
              by_cases hj : j = k
              · subst hj; rw [PA.out, PB.out, HE2.out]
              · exact HE.out j (by omega) h2
            case measure => simp [intOf]
          · have hb1 : ((0 : Int) == ((db k : Nat) : Int)) = false := by simp; omega
            have hb2 : ((0 : Int) != ((db k : Nat) : Int)) = true := by simp; omega
            have hr := HG.out _ _ PA.out PB.out he
            have HRR := Lib.hid hr; clear hr he
            go_wp2
            go_ret
            refine ⟨?_, rfl⟩
            rw [HRR.out]
            try simp
end Go.Proofs.YtoeomlmnejhgpaaDoor

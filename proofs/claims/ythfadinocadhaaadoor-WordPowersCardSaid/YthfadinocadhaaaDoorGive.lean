/- What word.giveBack comes to, called with any slices of parts that lie in two blocks. -/
import Derived.Test.YthfadinocadhaaaDoorTake
namespace Go.Proofs.YthfadinocadhaaaDoor
open Go.RowKit

/-- What word.giveBack leaves: the rest's cells, and what goes beyond. -/
def GivePost (S o n : Nat) (r d : Nat → Nat) (w : World) (e : Ending) (w' : World) : Prop :=
  ∃ (ns : Nat → Nat) (over : Nat), e = .returned (.int .u64 over) ∧ over ≤ 1 ∧ (∀ j, j < n + 1 → ns j < 18446744073709551616) ∧
    val ns (n + 1) + 18446744073709551616 ^ (n + 1) * over = val r (n + 1) + val d n ∧ Holds S o (n + 1) ns w w'

/-- One round's reckoning. -/
theorem give_step {P rk s c c' dk N R V : Nat} (h : N + P * c = R + V) (h1 : s + 18446744073709551616 * c' = rk + dk + c) :
    N + P * s + P * 18446744073709551616 * c' = R + P * rk + (V + P * dk) := by
  have e1 : P * s + P * (18446744073709551616 * c') = P * rk + P * dk + P * c := by rw [← Nat.mul_add, ← Nat.mul_add, ← Nat.mul_add, h1]
  rw [Nat.mul_assoc]
  omega

set_option maxRecDepth 100000 in
set_option maxHeartbeats 1000000 in
theorem give_any (S o capS D capD n : Nat) (r d : Nat → Nat) (hn : (n : Int) ≤ 1000) (hr : ∀ j, j < n + 1 → r j < 18446744073709551616) (hd : ∀ j, j < n → d j < 18446744073709551616)
    (hSD : D ≠ S) (w : World)
    (hs : ∀ j, j < n + 1 → w.cell? ⟨S, o + j, none⟩ = some (.int .u64 (r j))) (hf : ∀ j, j < n + 1 → w.frozen? ⟨S, o + j, none⟩ = false)
    (hc : ∀ j, j < n → w.cell? ⟨D, j, none⟩ = some (.int .u64 (d j))) :
    Calls Tryd.prog 109 #[.slice (some ⟨S, o, none⟩) ((n + 1 : Nat)) capS, .slice (some ⟨D, 0, none⟩) n capD] w (GivePost S o n r d w) := by
  have HR := Lib.hid hr; clear hr
  have HD := Lib.hid hd; clear hd
  have HS := Lib.hid hs; clear hs
  have HF := Lib.hid hf; clear hf
  have HC := Lib.hid hc; clear hc
  have HN := Lib.hid hSD; clear hSD
  go_enter Tryd.func109, Tryd.ntmps109
  go_wp2
  go_loopw [5, 10] (fun c i wr => ∃ (k cn : Nat) (ns : Nat → Nat), k ≤ n ∧ c = .int .u64 cn ∧ i = .int .i64 k ∧ Hid (cn ≤ 1 ∧ (∀ j, j < k → ns j < 18446744073709551616) ∧ val ns k + 18446744073709551616 ^ k * cn = val r k + val d k ∧ Holds S o k ns w wr)) (fun _ i _ => n - (intOf i).toNat)
  case atStart => exact ⟨0, 0, r, Nat.zero_le _, rfl, rfl, Lib.hid ⟨by omega, fun j hj => by omega, by simp [val], Holds.start S o r w⟩⟩
  case round =>
    obtain ⟨k, cn, ns, hk, rfl, rfl, H⟩ := hrel
    have hk0 : (0 : Int) ≤ k := by omega
    have hk1 : (k : Int) ≤ 1000 := by omega
    by_cases hlt : k < n
    · obtain ⟨sn, c', lc, ls, es, hSu⟩ := add64_ex (r k) (d k) cn (HR.out k (by omega)) (HD.out k hlt) H.out.1
      have cd : wr.cell? ⟨D, k, none⟩ = some (.int .u64 (d k)) := by rw [H.out.2.2.2.1.cell (p := ⟨D, k, none⟩) HN.out]; exact HC.out k hlt
      have cs : wr.cell? ⟨S, o + k, none⟩ = some (.int .u64 (r k)) := by rw [H.out.2.2.2.2 (o + k), if_neg (by omega)]; exact HS.out k (by omega)
      have cf : wr.frozen? ⟨S, o + k, none⟩ = false := by rw [H.out.2.2.2.1.frozen]; exact HF.out k (by omega)
      have ES := Lib.hid es; clear es
      go_wp2
      go_roundw
      case rel =>
        refine ⟨k + 1, c', fun j => if j = k then sn else ns j, by omega, rfl, by go_num, Lib.hid ⟨lc, fun j hj => ?_, ?_, H.out.2.2.2.next sn (by rw [HS.out k (by omega)]; rfl)⟩⟩
        · by_cases h : j = k
          · simp only [h, if_true]; exact ls
          · simp only [h, if_false]; exact H.out.2.1 j (by omega)
        · have e1 : val (fun j => if j = k then sn else ns j) k = val ns k := val_congr (fun j hj => by simp only [show ¬ j = k by omega, if_false])
          simp only [val, e1, if_true]
          rw [Nat.pow_succ]
          exact give_step H.out.2.2.1 ES.out
      case measure => simp [intOf]; omega
    · obtain rfl : k = n := by omega
      obtain ⟨s1, b1, lb1, ls1, es1, hS1⟩ := add64_ex (r k) 0 cn (HR.out k (by omega)) (by omega) H.out.1
      have hS2 : ∀ w, (callFunc 90 #[.int .u64 (r k), .int .u64 0, .int .u64 cn]).run Tryd.prog w = .ok (.value (.tuple #[.int .u64 s1, .int .u64 b1])) w := hS1
      clear hS1
      have ES := Lib.hid es1; clear es1
      have cs : wr.cell? ⟨S, o + k, none⟩ = some (.int .u64 (r k)) := by rw [H.out.2.2.2.2 (o + k), if_neg (by omega)]; exact HS.out k (by omega)
      have cf : wr.frozen? ⟨S, o + k, none⟩ = false := by rw [H.out.2.2.2.1.frozen]; exact HF.out k (by omega)
      go_wp2
      go_ret
      refine ⟨fun j => if j = k then s1 else ns j, b1, rfl, lb1, fun j hj => ?_, ?_, H.out.2.2.2.next s1 (by rw [HS.out k (by omega)]; rfl)⟩
      · by_cases h : j = k
        · simp only [h, if_true]; exact ls1
        · simp only [h, if_false]; exact H.out.2.1 j (by omega)
      · have e1 : val (fun j => if j = k then s1 else ns j) k = val ns k := val_congr (fun j hj => by simp only [show ¬ j = k by omega, if_false])
        simp only [val, e1, if_true]
        have h0 := give_step (P := 18446744073709551616 ^ k) (dk := 0) H.out.2.2.1 ES.out
        rw [Nat.pow_succ]
        omega
end Go.Proofs.YthfadinocadhaaaDoor

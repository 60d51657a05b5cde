/- Slices of parts of 32 bits: what they read as; what nat.trim comes to. -/
import Derived.Test.YtgegkffigjogcaaNNum
namespace Go.Proofs.Ytgegkffigjogcaa
open Go.RowKit

/-- n cells of block b from o on hold parts. -/
def Pt (w : World) (b o n : Nat) (f : Nat → Nat) : Prop := b < w.heap.size ∧ ∀ j, j < n → w.cell? ⟨b, o + j, none⟩ = some (.int .u32 (f j : Nat))
/-- A list, or none, that reads as n parts. -/
def RdA (w : World) (a : Option Addr) (n : Nat) (f : Nat → Nat) : Prop := n = 0 ∨ ∃ b o, a = some ⟨b, o, none⟩ ∧ Pt w b o n f
theorem Pt.below {w w' : World} {b o n : Nat} {f : Nat → Nat} (h : Pt w b o n f) (hb : Below w.heap.size w w') : Pt w' b o n f :=
  ⟨Nat.lt_of_lt_of_le h.1 hb.size, fun j hj => (hb.cell (p := ⟨b, o + j, none⟩) h.1).trans (h.2 j hj)⟩
theorem RdA.below {w w' : World} {a : Option Addr} {n : Nat} {f : Nat → Nat} (h : RdA w a n f) (hb : Below w.heap.size w w') : RdA w' a n f := by
  rcases h with h | ⟨b, o, ha, hp⟩
  · exact .inl h
  · exact .inr ⟨b, o, ha, hp.below hb⟩
theorem RdA.less {w : World} {a : Option Addr} {n : Nat} {f : Nat → Nat} (h : RdA w a n f) (m : Nat) (hm : m ≤ n) : RdA w a m f := by
  rcases h with rfl | ⟨b, o, ha, hp⟩
  · exact .inl (by omega)
  · exact .inr ⟨b, o, ha, hp.1, fun j hj => hp.2 j (by omega)⟩
theorem Pt.rd {w : World} {b o n : Nat} {f : Nat → Nat} (h : Pt w b o n f) : RdA w (some ⟨b, o, none⟩) n f := .inr ⟨b, o, rfl, h⟩
/-- What a walk reads at a place of a list. -/
theorem RdA.at_ {w : World} {a : Option Addr} {n : Nat} {f : Nat → Nat} (h : RdA w a n f) (cap k : Nat) (hk : k < n) : ∃ p : Addr, (∀ w, (Instr.indexAt 23 (.slice a n cap) (.int .i64 (k : Int))).run Try.prog w = .ok (.pointer (some p)) w) ∧ p.block < w.heap.size ∧ (∃ q, a = some q ∧ q.block = p.block) ∧ w.cell? p = some (.int .u32 (f k : Nat)) := by
  rcases h with rfl | ⟨b, o, rfl, hp⟩
  · omega
  · refine ⟨⟨b, o + k, none⟩, fun w => ?_, hp.1, ⟨_, rfl, rfl⟩, hp.2 k hk⟩
    have h0 : (0 : Int) ≤ k := by omega
    have h1 : (k : Int) < n := by omega
    go_simp

theorem slice_nat (a : Option Addr) (len cap h : Nat) (hh : (h : Int) ≤ cap) (w : World) : (Instr.slice 23 (.slice a len cap) none (some (.int .i64 (h : Int))) none).run Try.prog w = .ok (.slice a h cap) w := by
  have hsz : (sizeOf (Try.prog.elem 23)).run Try.prog w = .ok 1 w := by kernel_rfl
  rw [run_slice_h w 23 a len cap (by kernel_rfl) .i64 _ (by omega) hh, hsz]
  cases a <;> simp [Result.andThen, sliced, Addr.add]

set_option maxRecDepth 100000 in
set_option maxHeartbeats 1000000 in
theorem trim_any (a : Option Addr) (n cap : Nat) (f : Nat → Nat) (hn : (n : Int) ≤ 140737488355328) (hc : n ≤ cap) (w : World) (hP : RdA w a n f) :
    Calls Try.prog 41 #[.slice a n cap] w fun e w' => e = .returned (.slice a (tn f n) cap) ∧ w = w' := by
  have HP := Lib.hid hP; clear hP
  have hsl : ∀ h : Nat, (h : Int) ≤ cap → ∀ w, (Instr.slice 23 (.slice a n cap) none (some (.int .i64 (h : Int))) none).run Try.prog w = .ok (.slice a h cap) w := fun h hh w => slice_nat a n cap h hh w
  have HSL := Lib.hid hsl; clear hsl
  go_enter Try.func41, Try.ntmps41
  go_wp2
  go_loop [3] (fun iv => ∃ k : Nat, k ≤ n ∧ iv = .int .i64 k ∧ Hid (tn f n = tn f k)) (fun iv => (intOf iv).toNat)
  case atStart => exact ⟨n, Nat.le_refl _, rfl, Lib.hid rfl⟩
  case round =>
    obtain ⟨k, hk, rfl, H⟩ := hrel
    by_cases hk0 : k = 0
    · have e : tn f n = k := by rw [H.out, hk0]; rfl
      have hk1 : ¬ (0 : Int) < k := by omega
      have HE := Lib.hid e; clear e H hk0
      have hs := HSL.out k (by omega)
      go_wp2
      go_ret
      exact ⟨by rw [HE.out]; rfl, rfl⟩
    · obtain ⟨i, hi⟩ : ∃ i : Nat, (k : Int) - 1 = (i : Int) := ⟨k - 1, by omega⟩
      have hik : k = i + 1 := by omega
      have hi0 : (0 : Int) ≤ i := by omega
      have hi1 : (i : Int) < n := by omega
      have hk1 : (0 : Int) < k := by omega
      obtain ⟨p, hx, -, -, ca⟩ := HP.out.at_ cap i (by omega)
      have HIK := Lib.hid hik; clear hik
      by_cases hz : f i = 0
      · have hz' : ((f i : Nat) : Int) = 0 := by omega
        have hz2 : (((f i : Nat) : Int) == 0) = true := by simp [hz]
        have HZ := Lib.hid hz; clear hz
        go_wp2
        go_round
        case rel => exact ⟨i, by omega, rfl, Lib.hid (by rw [H.out, HIK.out, tn, if_pos HZ.out])⟩
        case measure => simp [intOf]; omega
      · have hz2 : (((f i : Nat) : Int) == 0) = false := by simp [hz]
        have hs := HSL.out k (by omega)
        have e : tn f n = k := by rw [H.out, HIK.out, tn, if_neg hz]
        have HE := Lib.hid e; clear e H hz
        go_wp2
        go_ret
        exact ⟨by rw [HE.out]; rfl, rfl⟩
end Go.Proofs.Ytgegkffigjogcaa

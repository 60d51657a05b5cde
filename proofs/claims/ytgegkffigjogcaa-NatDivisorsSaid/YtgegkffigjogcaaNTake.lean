/- What nat.takeFrom comes to, called with a list of its own and any other. -/
import Derived.Test.YtgegkffigjogcaaNWrite
namespace Go.Proofs.Ytgegkffigjogcaa
open Go.RowKit

/-- What takeFrom leaves. -/
def TakeFromPost (S o n m : Nat) (f g : Nat → Nat) (w : World) (e : Ending) (w' : World) : Prop :=
  ∃ (ns : Nat → Nat) (c : Nat), e = .returned (.int .u32 c) ∧ c ≤ 1 ∧ (∀ j, j < n → ns j < 4294967296) ∧ vb 4294967296 ns n + vb 4294967296 g m = vb 4294967296 f n + 4294967296 ^ n * c ∧ HoldsN S o n ns w w'
def SubR (S o k m : Nat) (f g : Nat → Nat) (c : Nat) (w wr : World) : Prop := c ≤ 1 ∧ ∃ ns : Nat → Nat, HoldsN S o k ns w wr ∧ (∀ j, j < k → ns j < 4294967296) ∧ vb 4294967296 ns k + vb 4294967296 g m = vb 4294967296 f k + 4294967296 ^ k * c
theorem SubR.next {S o k m n : Nat} {f g : Nat → Nat} {c x : Nat} {w wr : World} (h : SubR S o k m f g c w wr) (hW : Wr w S o n f) (hk : k < n) (hx : x < 4294967296) (hf : f k < 4294967296)
    {g' : Nat → Nat} {m' : Nat} (hg : vb 4294967296 g' m' = vb 4294967296 g m + 4294967296 ^ k * x) : SubR S o (k + 1) m' f g' (if f k < x + c then 1 else 0) w (wr.setCell ⟨S, o + k, none⟩ (.int .u32 ((f k + 4294967296 + 4294967296 - x - c) % 4294967296 : Nat))) := by
  obtain ⟨hc, ns, hH, hn, hv⟩ := h
  refine ⟨by split <;> omega, upd ns k ((f k + 4294967296 + 4294967296 - x - c) % 4294967296), hH.next _ (by rw [(hW.2 k hk).1]; rfl), upd_ltP hn (by omega), ?_⟩
  rw [vb_upd, hg, Nat.pow_succ]
  exact sub_step hv (by split <;> omega)

set_option maxRecDepth 100000 in
set_option maxHeartbeats 1000000 in
theorem takeFrom_any (S o n capS : Nat) (a : Option Addr) (m capD : Nat) (f g : Nat → Nat) (hn : (n : Int) ≤ 34000000000) (hmn : m ≤ n) (hf : ∀ j, j < n → f j < 4294967296) (hg : ∀ j, j < m → g j < 4294967296) (hO : Off S a) (w : World) (hW : Wr w S o n f) (hR : RdA w a m g) :
    Calls Try.prog 48 #[.slice (some ⟨S, o, none⟩) n capS, .slice a m capD] w (TakeFromPost S o n m f g w) := by
  have HF := Lib.hid hf; clear hf
  have HG := Lib.hid hg; clear hg
  have HO := Lib.hid hO; clear hO
  have HW := Lib.hid hW; clear hW
  have HR := Lib.hid hR; clear hR
  go_enter Try.func48, Try.ntmps48
  go_wp2
  go_loopw [5, 11] (fun cv iv wr => ∃ k c : Nat, k ≤ m ∧ iv = .int .i64 k ∧ cv = .int .u32 c ∧ Hid (SubR S o k k f g c w wr)) (fun _ iv _ => m - (intOf iv).toNat)
  case atStart => exact ⟨0, 0, by omega, rfl, rfl, Lib.hid ⟨by omega, f, HoldsN.start _ _ _ _, by omega, rfl⟩⟩
  case round =>
    obtain ⟨k, c, hk, rfl, rfl, H⟩ := hrel
    have hk0 : (0 : Int) ≤ k := by omega
    by_cases hlt : k < m
    · have hkm : (k : Int) < m := by omega
      have hkn : (k : Int) < n := by omega
      obtain ⟨p, hx, hpb, ⟨q, haq, hqb⟩, cb⟩ := HR.out.at_ capD k hlt
      obtain ⟨cA, fA⟩ := H.out.2.choose_spec.1.cell HW.out (show k < n by omega)
      have cb' : wr.cell? p = some (.int .u32 (g k : Nat)) := (H.out.2.choose_spec.1.1.cell (p := p) (by rw [← hqb]; exact HO.out q haq)).trans cb
      clear cb hpb haq hqb
      have HA := Lib.hid (sub32_any (f k) (g k) c (HF.out k (by omega)) (HG.out k hlt) H.out.1 wr)
      have HN := Lib.hid (H.out.next HW.out (show k < n by omega) (HG.out k hlt) (HF.out k (by omega)) (g' := g) (m' := k + 1) rfl)
      obtain ⟨s, hs⟩ : ∃ s, (f k + 4294967296 + 4294967296 - g k - c) % 4294967296 = s := ⟨_, rfl⟩
      obtain ⟨c', hc'⟩ : ∃ c', (if f k < g k + c then 1 else 0 : Nat) = c' := ⟨_, rfl⟩
      unfold Sub32Post at HA
      rw [hs, hc'] at HA HN
      clear hs hc'
      go_wp2_with fail
      refine HA.out.mono ?_
      rintro e w' ⟨rfl, rfl⟩
      go_wp2
      go_roundw
      case rel => exact ⟨k + 1, c', by omega, by go_num, rfl, HN⟩
      case measure => simp [intOf]; omega
    · obtain rfl : k = m := by omega
      go_wp2
      go_loopw [5, 8] (fun cv iv wr => ∃ i c : Nat, k ≤ i ∧ i ≤ n ∧ iv = .int .i64 i ∧ cv = .int .u32 c ∧ Hid (SubR S o i k f g c w wr)) (fun _ iv _ => n - (intOf iv).toNat)
      case atStart => exact ⟨k, c, by omega, hmn, rfl, rfl, H⟩
      case round =>
        obtain ⟨i, c, hki, hi, rfl, rfl, H2⟩ := hrel
        have hi0 : (0 : Int) ≤ i := by omega
        by_cases hin : i < n
        · have hin' : (i : Int) < n := by omega
          by_cases hz : c = 0
          · have hz1 : (((c : Nat) : Int) != 0) = false := by simp [hz]
            have HZ := Lib.hid hz; clear hz
            go_wp2
            go_ret
            obtain ⟨h1, ns, h2, h3, h4⟩ := H2.out
            refine ⟨_, c, rfl, h1, fun j hj => ?_, ?_, h2.widen (by omega) HW.out⟩
            · by_cases hji : j < i
              · simp only [hji, if_true]; exact h3 j hji
              · simp only [hji, if_false]; exact HF.out j hj
            · have := vb_rest 4294967296 ns f i n (by omega)
              rw [HZ.out] at h4 ⊢
              omega
          · have hz1 : (((c : Nat) : Int) != 0) = true := by simp [hz]
            obtain ⟨cA, fA⟩ := H2.out.2.choose_spec.1.cell HW.out hin
            have HA := Lib.hid (sub32_any (f i) 0 c (HF.out i hin) (by omega) H2.out.1 wr)
            have HN := Lib.hid (H2.out.next HW.out hin (show 0 < 4294967296 by omega) (HF.out i hin) (g' := g) (m' := k) (by rw [Nat.mul_zero, Nat.add_zero]))
            obtain ⟨s, hs⟩ : ∃ s, (f i + 4294967296 + 4294967296 - 0 - c) % 4294967296 = s := ⟨_, rfl⟩
            obtain ⟨c', hc'⟩ : ∃ c', (if f i < 0 + c then 1 else 0 : Nat) = c' := ⟨_, rfl⟩
            unfold Sub32Post at HA
            rw [hs, hc'] at HA HN
            clear hs hc' hz
            go_wp2_with fail
            refine HA.out.mono ?_
            rintro e w' ⟨rfl, rfl⟩
            go_wp2
            go_roundw
            case rel => exact ⟨i + 1, c', by omega, by omega, by go_num, rfl, HN⟩
            case measure => simp [intOf]; omega
        · obtain rfl : i = n := by omega
          go_wp2
          go_ret
          obtain ⟨h1, ns, h2, h3, h4⟩ := H2.out
          exact ⟨ns, c, rfl, h1, h3, h4, h2⟩
end Go.Proofs.Ytgegkffigjogcaa

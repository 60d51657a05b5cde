/- What nat.addTimes and nat.takeTimes come to, called with a list of its own and any other. -/
import Derived.Test.YtgegkffigjogcaaNWrite
namespace Go.Proofs.Ytgegkffigjogcaa
open Go.RowKit

theorem natmod (y : Nat) : ((y : Nat) : Int) % 4294967296 = ((y % 4294967296 : Nat) : Int) := by omega
theorem natdiv (y : Nat) : ((y : Nat) : Int) / 4294967296 = ((y / 4294967296 : Nat) : Int) := by omega
theorem mul_u32 {g x : Nat} (hg : g < 4294967296) (hx : x < 4294967296) : g * x ≤ 18446744065119617025 := by
  have := Nat.mul_le_mul (show g ≤ 4294967295 by omega) (show x ≤ 4294967295 by omega)
  omega
theorem addt_wrap (g x f c : Nat) (hg : g < 4294967296) (hx : x < 4294967296) (hf : f < 4294967296) (hc : c < 4294967296) :
    IntKind.u64.wrap (IntKind.u64.wrap (IntKind.u64.wrap (IntKind.u64.wrap (g : Int) * IntKind.u64.wrap (x : Int)) + IntKind.u64.wrap (f : Int)) + (c : Int)) = ((g * x + f + c : Nat) : Int) := by
  have h := mul_u32 hg hx
  have e : (g : Int) * (x : Int) = ((g * x : Nat) : Int) := by simp
  rw [IntKind.wrap_u64 (g : Int), IntKind.wrap_u64 (x : Int), IntKind.wrap_u64 (f : Int), Int.emod_eq_of_lt (by omega) (by omega), Int.emod_eq_of_lt (by omega) (by omega), Int.emod_eq_of_lt (a := (f : Int)) (by omega) (by omega), e]
  generalize g * x = q at *
  rw [IntKind.wrap_u64, IntKind.wrap_u64, IntKind.wrap_u64]
  omega
/-- What addTimes leaves. -/
def AddTimesPost (S o m x : Nat) (f g : Nat → Nat) (w : World) (e : Ending) (w' : World) : Prop :=
  ∃ (ns : Nat → Nat) (c : Nat), e = .returned (.int .u32 c) ∧ c < 4294967296 ∧ (∀ j, j < m → ns j < 4294967296) ∧ vb 4294967296 ns m + 4294967296 ^ m * c = vb 4294967296 f m + vb 4294967296 g m * x ∧ HoldsN S o m ns w w'
def AddTR (S o k x : Nat) (f g : Nat → Nat) (c : Nat) (w wr : World) : Prop := c < 4294967296 ∧ ∃ ns : Nat → Nat, HoldsN S o k ns w wr ∧ (∀ j, j < k → ns j < 4294967296) ∧ vb 4294967296 ns k + 4294967296 ^ k * c = vb 4294967296 f k + vb 4294967296 g k * x

theorem AddTR.next {S o k n x : Nat} {f g : Nat → Nat} {c : Nat} {w wr : World} (h : AddTR S o k x f g c w wr) (hW : Wr w S o n f) (hk : k < n) (hg : g k < 4294967296) (hf : f k < 4294967296) (hx : x < 4294967296) :
    AddTR S o (k + 1) x f g ((g k * x + f k + c) / 4294967296) w (wr.setCell ⟨S, o + k, none⟩ (.int .u32 ((g k * x + f k + c) % 4294967296 : Nat))) := by
  obtain ⟨hc, ns, hH, hn, hv⟩ := h
  have hm := mul_u32 hg hx
  refine ⟨by omega, upd ns k ((g k * x + f k + c) % 4294967296), hH.next _ (by rw [(hW.2 k hk).1]; rfl), upd_ltP hn (by omega), ?_⟩
  rw [vb_upd, Nat.pow_succ]
  exact addt_step hv (by omega)

set_option maxRecDepth 100000 in
set_option maxHeartbeats 1000000 in
theorem addTimes_any (S o n capS : Nat) (a : Option Addr) (m capD x : Nat) (f g : Nat → Nat) (hn : (n : Int) ≤ 34000000000) (hnc : n ≤ capS) (hmn : m ≤ n) (hx : x < 4294967296) (hf : ∀ j, j < n → f j < 4294967296) (hg : ∀ j, j < m → g j < 4294967296) (hO : Off S a) (w : World) (hW : Wr w S o n f) (hR : RdA w a m g) :
    Calls Try.prog 67 #[.slice (some ⟨S, o, none⟩) n capS, .slice a m capD, .int .u32 x] w (AddTimesPost S o m x f g w) := by
  have HF := Lib.hid hf; clear hf
  have HG := Lib.hid hg; clear hg
  have HO := Lib.hid hO; clear hO
  have HW := Lib.hid hW; clear hW
  have HR := Lib.hid hR; clear hR
  have HX := Lib.hid hx; clear hx
  have hsl := slice_nat (some ⟨S, o, none⟩) n capS m (by omega)
  go_enter Try.func67, Try.ntmps67
  go_wp2
  go_loopw [7, 17] (fun cv iv wr => ∃ k c : Nat, k ≤ m ∧ iv = .int .i64 k ∧ cv = .int .u64 c ∧ Hid (AddTR S o k x f g c w wr)) (fun _ iv _ => m - (intOf iv).toNat)
  case atStart => exact ⟨0, 0, by omega, rfl, rfl, Lib.hid ⟨by omega, f, HoldsN.start _ _ _ _, by omega, by simp [vb]⟩⟩
  case round =>
    obtain ⟨k, c, hk, rfl, rfl, H⟩ := hrel
    have hk0 : (0 : Int) ≤ k := by omega
    by_cases hlt : k < m
    · have hkm : (k : Int) < m := by omega
      have hkn : (k : Int) < n := by omega
      obtain ⟨p, hix, hpb, ⟨q, haq, hqb⟩, cb⟩ := HR.out.at_ capD k hlt
      obtain ⟨cA, fA⟩ := H.out.2.choose_spec.1.cell HW.out (show k < n by omega)
      have cb' : wr.cell? p = some (.int .u32 (g k : Nat)) := (H.out.2.choose_spec.1.1.cell (p := p) (by rw [← hqb]; exact HO.out q haq)).trans cb
      clear cb hpb haq hqb
      have HN := Lib.hid (AddTR.next H.out HW.out (show k < n by omega) (HG.out k hlt) (HF.out k (by omega)) HX.out)
      have HY := Lib.hid (addt_wrap (g k) x (f k) c (HG.out k hlt) HX.out (HF.out k (by omega)) H.out.1)
      go_wp2
      go_roundw
      case rel =>
        rw [HY.out, natmod, natdiv]
        exact ⟨k + 1, _, by omega, by go_num, rfl, HN⟩
      case measure => simp [intOf]; omega
    · obtain rfl : k = m := by omega
      go_wp2
      go_ret
      obtain ⟨h1, ns, h2, h3, h4⟩ := H.out
      refine ⟨ns, c, ?_, h1, h3, h4, h2⟩
      show Ending.returned (.int .u32 ((c : Int) % 4294967296)) = _
      rw [natmod, Nat.mod_eq_of_lt h1]

theorem subt_wrap (g x f c : Nat) (hg : g < 4294967296) (hx : x < 4294967296) (hf : f < 4294967296) (hc : c < 4294967296) :
    IntKind.u64.wrap (IntKind.u64.wrap (IntKind.u64.wrap (IntKind.u64.wrap (g : Int) * IntKind.u64.wrap (x : Int)) + IntKind.u64.wrap (bits BinOp.xor IntKind.u32 IntKind.u32.max (f : Int))) + (c : Int)) = ((g * x + (4294967295 - f) + c : Nat) : Int) := by
  rw [not_u32_nat f hf]
  exact addt_wrap g x (4294967295 - f) c hg hx (by omega) hc
/-- What takeTimes leaves. -/
def TakeTimesPost (S o m x : Nat) (f g : Nat → Nat) (w : World) (e : Ending) (w' : World) : Prop :=
  ∃ (ns : Nat → Nat) (c : Nat), e = .returned (.int .u32 c) ∧ c < 4294967296 ∧ (∀ j, j < m → ns j < 4294967296) ∧ vb 4294967296 ns m + vb 4294967296 g m * x = vb 4294967296 f m + 4294967296 ^ m * c ∧ HoldsN S o m ns w w'
def SubTR (S o k x : Nat) (f g : Nat → Nat) (c : Nat) (w wr : World) : Prop := c < 4294967296 ∧ ∃ ns : Nat → Nat, HoldsN S o k ns w wr ∧ (∀ j, j < k → ns j < 4294967296) ∧ vb 4294967296 ns k + vb 4294967296 g k * x = vb 4294967296 f k + 4294967296 ^ k * c

theorem SubTR.next {S o k n x : Nat} {f g : Nat → Nat} {c : Nat} {w wr : World} (h : SubTR S o k x f g c w wr) (hW : Wr w S o n f) (hk : k < n) (hg : g k < 4294967296) (hf : f k < 4294967296) (hx : x < 4294967296) :
    SubTR S o (k + 1) x f g ((g k * x + (4294967295 - f k) + c) / 4294967296) w (wr.setCell ⟨S, o + k, none⟩ (.int .u32 ((4294967295 - (g k * x + (4294967295 - f k) + c) % 4294967296 : Nat) : Int))) := by
  obtain ⟨hc, ns, hH, hn, hv⟩ := h
  have hm := mul_u32 hg hx
  refine ⟨by omega, upd ns k (4294967295 - (g k * x + (4294967295 - f k) + c) % 4294967296), hH.next _ (by rw [(hW.2 k hk).1]; rfl), upd_ltP hn (by omega), ?_⟩
  rw [vb_upd, Nat.pow_succ]
  exact subt_step hv (by omega)

set_option maxRecDepth 100000 in
set_option maxHeartbeats 1000000 in
theorem takeTimes_any (S o n capS : Nat) (a : Option Addr) (m capD x : Nat) (f g : Nat → Nat) (hn : (n : Int) ≤ 34000000000) (hnc : n ≤ capS) (hmn : m ≤ n) (hx : x < 4294967296) (hf : ∀ j, j < n → f j < 4294967296) (hg : ∀ j, j < m → g j < 4294967296) (hO : Off S a) (w : World) (hW : Wr w S o n f) (hR : RdA w a m g) :
    Calls Try.prog 75 #[.slice (some ⟨S, o, none⟩) n capS, .slice a m capD, .int .u32 x] w (TakeTimesPost S o m x f g w) := by
  have HF := Lib.hid hf; clear hf
  have HG := Lib.hid hg; clear hg
  have HO := Lib.hid hO; clear hO
  have HW := Lib.hid hW; clear hW
  have HR := Lib.hid hR; clear hR
  have HX := Lib.hid hx; clear hx
  have hsl := slice_nat (some ⟨S, o, none⟩) n capS m (by omega)
  go_enter Try.func75, Try.ntmps75
  go_wp2
  go_loopw [7, 17] (fun cv iv wr => ∃ k c : Nat, k ≤ m ∧ iv = .int .i64 k ∧ cv = .int .u64 c ∧ Hid (SubTR S o k x f g c w wr)) (fun _ iv _ => m - (intOf iv).toNat)
  case atStart => exact ⟨0, 0, by omega, rfl, rfl, Lib.hid ⟨by omega, f, HoldsN.start _ _ _ _, by omega, by simp [vb]⟩⟩
  case round =>
    obtain ⟨k, c, hk, rfl, rfl, H⟩ := hrel
    have hk0 : (0 : Int) ≤ k := by omega
    by_cases hlt : k < m
    · have hkm : (k : Int) < m := by omega
      have hkn : (k : Int) < n := by omega
      obtain ⟨p, hix, hpb, ⟨q, haq, hqb⟩, cb⟩ := HR.out.at_ capD k hlt
      obtain ⟨cA, fA⟩ := H.out.2.choose_spec.1.cell HW.out (show k < n by omega)
      have cb' : wr.cell? p = some (.int .u32 (g k : Nat)) := (H.out.2.choose_spec.1.1.cell (p := p) (by rw [← hqb]; exact HO.out q haq)).trans cb
      clear cb hpb haq hqb
      have HN := Lib.hid (SubTR.next H.out HW.out (show k < n by omega) (HG.out k hlt) (HF.out k (by omega)) HX.out)
      have HY := Lib.hid (subt_wrap (g k) x (f k) c (HG.out k hlt) HX.out (HF.out k (by omega)) H.out.1)
      go_wp2
      go_roundw
      case rel =>
        rw [show (if IntKind.u32.signed = true then (-1 : Int) else IntKind.u32.max) = IntKind.u32.max from rfl, HY.out, natmod, natdiv, not_u32_nat _ (Nat.mod_lt _ (by omega))]
        exact ⟨k + 1, _, by omega, by go_num, rfl, HN⟩
      case measure => simp [intOf]; omega
    · obtain rfl : k = m := by omega
      go_wp2
      go_ret
      obtain ⟨h1, ns, h2, h3, h4⟩ := H.out
      refine ⟨ns, c, ?_, h1, h3, h4, h2⟩
      show Ending.returned (.int .u32 ((c : Int) % 4294967296)) = _
      rw [natmod, Nat.mod_eq_of_lt h1]
end Go.Proofs.Ytgegkffigjogcaa

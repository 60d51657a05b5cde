/- What nat.raise, nat.lower, nat.headroom, nat.highest and nat.hasBit come to. -/
import Derived.Test.YtgegkffigjogcaaNWrite
import Derived.Test.YtgegkffigjogcaaShelf
import Derived.BigRegion
import Derived.Laws.Bits64b
namespace Go.Proofs.Ytgegkffigjogcaa
open Go.RowKit

theorem madeCells32_at (k j : Nat) (h : j < k) : (madeCells (Value.int .u32 0).cells (k * 1)).toList[j]? = some (.int .u32 ((0 : Nat) : Int)) := by
  simp [madeCells, Value.cells, h, Nat.mod_one]
theorem natmod2 (y : Nat) : ((y : Nat) : Int) % 4294967296 = ((y % 4294967296 : Nat) : Int) := by omega
theorem shl_nat (x s t D : Nat) (_hx : x < 4294967296) (ht : s + t = 32) (hD : D < 2 ^ s) : bits .or .u32 (D : Int) ((x : Int) * 2 ^ s % 4294967296) = ((D + 2 ^ s * (x % 2 ^ t) : Nat) : Int) ∧ D + 2 ^ s * (x % 2 ^ t) < 4294967296 := by
  have hP : 2 ^ s * 2 ^ t = 4294967296 := by rw [← Nat.pow_add, ht]
  have e1 : (x : Int) * 2 ^ s % 4294967296 = ((2 ^ s * (x % 2 ^ t) : Nat) : Int) := by
    have : ((x : Int) * 2 ^ s) = ((x * 2 ^ s : Nat) : Int) := by simp
    rw [this, natmod2]
    congr 1
    rw [Nat.mul_comm x, ← hP, Nat.mul_mod_mul_left]
  have hm : x % 2 ^ t + 1 ≤ 2 ^ t := Nat.mod_lt _ (Nat.pow_pos (by omega))
  have h2 : 2 ^ s * (x % 2 ^ t + 1) ≤ 2 ^ s * 2 ^ t := Nat.mul_le_mul_left _ hm
  rw [Nat.mul_add, hP] at h2
  have hl : D + 2 ^ s * (x % 2 ^ t) < 4294967296 := by omega
  refine ⟨?_, hl⟩
  rw [e1, (bits_u32_nat D _ (by omega) (by omega)).2.1, Nat.or_comm, ← Nat.two_pow_add_eq_or_of_lt hD, Nat.add_comm]
theorem raise_num {P s t k x : Nat} (o : Nat → Nat) (hP : 2 ^ s * 2 ^ t = P) : vb P (upd (upd o k (o k + 2 ^ s * (x % 2 ^ t))) (k + 1) (x / 2 ^ t)) (k + 2) = vb P o (k + 1) + P ^ k * (2 ^ s * x) := by
  rw [vb_upd, vb_upd]
  simp only [vb]
  have e : 2 ^ s * x = 2 ^ s * (x % 2 ^ t) + P * (x / 2 ^ t) := by
    rw [← hP, Nat.mul_assoc, ← Nat.mul_add, Nat.mod_add_div]
  rw [e, Nat.pow_succ, Nat.mul_add, Nat.mul_add, Nat.mul_assoc]
  omega
/-- What raise keeps: the number of what was done, times 2 to the s. -/
structure RaiseR (B L k s : Nat) (f : Nat → Nat) (o : Nat → Nat) (w wr : World) : Prop where
  out : Wr wr B 0 L o
  old : Below w.heap.size w wr
  lt : ∀ j, j < L → o j < 4294967296
  top : o k < 2 ^ s
  high : ∀ j, k < j → j < L → o j = 0
  num : vb 4294967296 o (k + 1) = 2 ^ s * vb 4294967296 f k
theorem Wr.set {w : World} {S o n : Nat} {f : Nat → Nat} (h : Wr w S o n f) (p y : Nat) (hp : p < n) : Wr (w.setCell ⟨S, o + p, none⟩ (.int .u32 (y : Nat))) S o n (upd f p y) := by
  refine ⟨by simpa using h.1, fun j hj => ⟨?_, ?_⟩⟩
  · by_cases e : j = p
    · subst e
      rw [World.cell?_setCell_same _ _ _ (h.2 j hj).1]
      simp [upd]
    · rw [World.cell?_setCell_other _ _ _ _ (by intro e2; apply e; injection e2 with _ e3; omega), (h.2 j hj).1]
      simp [upd, e]
  · rw [World.frozen?_setCell]; exact (h.2 j hj).2
theorem Wr.drew {w : World} {S o n : Nat} {f : Nat → Nat} (h : Wr w S o n f) : Wr w.drew S o n f := h
theorem RaiseR.next {B L k s t : Nat} {f o : Nat → Nat} {w wr : World} (h : RaiseR B L k s f o w wr) (hB : w.heap.size ≤ B) (hk : k + 1 < L) (ht : s + t = 32) (hf : f k < 4294967296) :
    RaiseR B L (k + 1) s f (upd (upd o k (o k + 2 ^ s * (f k % 2 ^ t))) (k + 1) (f k / 2 ^ t)) w ((wr.setCell ⟨B, k, none⟩ (.int .u32 ((o k + 2 ^ s * (f k % 2 ^ t) : Nat) : Int))).setCell ⟨B, k + 1, none⟩ (.int .u32 ((f k / 2 ^ t : Nat) : Int))).drew := by
  have hP : 2 ^ s * 2 ^ t = 4294967296 := by rw [← Nat.pow_add, ht]
  have hl := (shl_nat (f k) s t (o k) hf ht h.top).2
  have hd : f k / 2 ^ t < 2 ^ s := by rw [Nat.div_lt_iff_lt_mul (Nat.pow_pos (by omega)), hP]; exact hf
  have hs : 2 ^ s ≤ 4294967296 := by
    have h1 : 1 ≤ 2 ^ t := Nat.pow_pos (by omega)
    have := Nat.mul_le_mul_left (2 ^ s) h1
    omega
  have e1 := (h.out.set k (o k + 2 ^ s * (f k % 2 ^ t)) (by omega)).set (k + 1) (f k / 2 ^ t) hk
  simp only [Nat.zero_add] at e1
  refine ⟨e1.drew, ((h.old.setCell hB _).setCell hB _).drew, fun j hj => ?_, ?_, fun j h1 h2 => ?_, ?_⟩
  · unfold upd; split
    · omega
    · split
      · exact hl
      · exact h.lt j hj
  · unfold upd; rw [if_pos rfl]; exact hd
  · unfold upd; rw [if_neg (by omega), if_neg (by omega)]; exact h.high j (by omega) h2
  · rw [raise_num o hP, h.num]
    simp only [vb]
    rw [Nat.mul_add, Nat.mul_left_comm]

set_option maxRecDepth 100000 in
set_option maxHeartbeats 1000000 in
theorem raise_any (a : Option Addr) (n cap s : Nat) (f : Nat → Nat) (hn : (n : Int) ≤ 34000000000) (hs : s < 32) (hf : ∀ j, j < n → f j < 4294967296) (w : World) (hR : RdA w a n f) :
    Calls Try.prog 58 #[.slice a n cap, .int .i64 s] w fun e w' => ∃ B o, e = .returned (.slice (some ⟨B, 0, none⟩) ((n + 1 : Nat)) ((n + 1 : Nat))) ∧ w.heap.size ≤ B ∧ Wr w' B 0 (n + 1) o ∧ Below w.heap.size w w' ∧ (∀ j, j < n + 1 → o j < 4294967296) ∧ vb 4294967296 o (n + 1) = 2 ^ s * vb 4294967296 f n := by
  have HF := Lib.hid hf; clear hf
  have HR := Lib.hid hR; clear hR
  have hn0 : (0 : Int) ≤ n := by omega
  have hs0 : (0 : Int) ≤ s := by omega
  have hs1 : (s : Int) < 32 := by omega
  obtain ⟨t, ht⟩ : ∃ t : Nat, (32 : Int) - (s : Int) = (t : Int) := ⟨32 - s, by omega⟩
  have ht0 : (0 : Int) ≤ t := by omega
  have ht1 : (t : Int) ≤ 32 := by omega
  obtain ⟨L, hL⟩ : ∃ L : Nat, (n : Int) + 1 = (L : Int) := ⟨n + 1, by omega⟩
  have HL : Hid (n + 1 = L) := Lib.hid (by omega)
  have hLb : (L : Int) ≤ 34000000001 := by omega
  obtain ⟨i0, hi, hz0, hz1, hz2⟩ := info_parts info32
  go_enter Try.func58, Try.ntmps58
  go_wp2_with (at_make; refine wpList_make_full _ rfl _ _ 23 rfl w.heap.size 32 i0 (.int .u32 0) 1 Try.underlying23 hi hz0 hz1 .i64 .i64 _ _ L rfl rfl rfl rfl (by rw [hz2]; omega) (by unfold maxLen; omega) (Nat.le_refl _) ?_; intro w0 hown0 hgrow0)
  have hout : Wr w0 w.heap.size 0 L (fun _ => 0) := ⟨(hown0.lt _ rfl).2, fun j hj => ⟨by rw [Nat.zero_add]; exact (hown0.cellAt j (by omega)).trans (madeCells32_at L j hj), by rw [Nat.zero_add]; exact hown0.frozenAt j⟩⟩
  have hbel : Below w.heap.size w w0 := (Below.refl _ _).grown hgrow0 (Nat.le_refl _) (fun k hk => by cases hk)
  have HW := Lib.hid (And.intro hout hbel)
  clear hout hbel hown0 hgrow0 hL
  go_wp2
  go_loopw [14] (fun iv wr => ∃ k : Nat, k ≤ n ∧ iv = .int .i64 k ∧ Hid (∃ o, RaiseR w.heap.size L k s f o w wr)) (fun iv _ => n - (intOf iv).toNat)
  case atStart => exact ⟨0, by omega, rfl, Lib.hid ⟨fun _ => 0, HW.out.1, HW.out.2, fun _ _ => (by show 0 < 4294967296; omega), Nat.pow_pos (by omega), fun _ _ _ => rfl, by simp [vb]⟩⟩
  case round =>
    obtain ⟨k, hk, rfl, H⟩ := hrel
    have hk0 : (0 : Int) ≤ k := by omega
    by_cases hlt : k < n
    · have hkn : (k : Int) < n := by omega
      have hkL : (k : Int) < L := by have := HL.out; omega
      have hkL1 : (k : Int) + 1 < L := by have := HL.out; omega
      obtain ⟨o, HO⟩ := H.out
      obtain ⟨p, hix, hpb, -, cb⟩ := (HR.out.below HO.old).at_ cap k hlt
      have co : wr.cell? ⟨w.heap.size, k, none⟩ = some (.int .u32 (o k : Nat)) := by have := (HO.out.2 k (by omega)).1; rwa [Nat.zero_add] at this
      have fo : wr.frozen? ⟨w.heap.size, k, none⟩ = false := by have := (HO.out.2 k (by omega)).2; rwa [Nat.zero_add] at this
      have co1 : wr.cell? ⟨w.heap.size, k + 1, none⟩ = some (.int .u32 (o (k + 1) : Nat)) := by have := (HO.out.2 (k + 1) (by have := HL.out; omega)).1; rwa [Nat.zero_add] at this
      have fo1 : wr.frozen? ⟨w.heap.size, k + 1, none⟩ = false := by have := (HO.out.2 (k + 1) (by have := HL.out; omega)).2; rwa [Nat.zero_add] at this
      have HS := Lib.hid (shl_nat (f k) s t (o k) (HF.out k hlt) (by omega) HO.top).1
      have HN := Lib.hid (HO.next (Nat.le_refl _) (by have := HL.out; omega) (show s + t = 32 by omega) (HF.out k hlt))
      have HO' := Lib.hid HO; clear HO
      go_wp2_with fail
      go_region
      go_wp2
      go_roundw
      case rel =>
        refine ⟨k + 1, by omega, by go_num, Lib.hid ⟨upd (upd o k (o k + 2 ^ s * (f k % 2 ^ t))) (k + 1) (f k / 2 ^ t), ?_⟩⟩
        rw [HS.out]
        exact HN.out
      case measure => simp [intOf]; omega
    · obtain rfl : k = n := by omega
      obtain ⟨o, HO⟩ := H.out
      go_wp2
      go_ret
      exact ⟨w.heap.size, o, by rw [HL.out]; rfl, Nat.le_refl _, by rw [HL.out]; exact HO.out, HO.old, by rw [HL.out]; exact HO.lt, by rw [← HO.num]⟩
end Go.Proofs.Ytgegkffigjogcaa

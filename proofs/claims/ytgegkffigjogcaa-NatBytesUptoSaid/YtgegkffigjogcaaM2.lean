/- What nat.guess comes to. (With it, merged: NRaise · NProd · Div64 · DivW · NDiv64 · NHigh · NGuess.) -/
import Derived.Test.YtgegkffigjogcaaM1
import Derived.BigRegion
import Derived.Laws.Bits64b
import Derived.Lib.ItoaMem
import Derived.WalkKit
import Derived.Deep.LoopGhost
import Derived.BigQuiet
import Derived.Lib.Hide
import Derived.Deep.QuietTactic
import Derived.Lib.ItoaNum
import Derived.Deep.RegionWith
namespace Go.Proofs.Ytgegkffigjogcaa
open Go.RowKit

theorem madeCells32_at (k j : Nat) (h : j < k) : (madeCells (Value.int .u32 0).cells (k * 1)).toList[j]? = some (.int .u32 ((0 : Nat) : Int)) := by
  simp [madeCells, Value.cells, h, Nat.mod_one]
theorem natmod2 (y : Nat) : ((y : Nat) : Int) % 4294967296 = ((y % 4294967296 : Nat) : Int) := by omega
theorem shl_nat (x s t D : Nat) (_hx : x < 4294967296) (ht : s + t = 32) (hD : D < 2 ^ s) : bits .or .u32 (D : Int) ((x : Int) * 2 ^ s % 4294967296) = ((D + 2 ^ s * (x % 2 ^ t) : Nat) : Int) ∧ D + 2 ^ s * (x % 2 ^ t) < 4294967296 := by
  have hP : 2 ^ s * 2 ^ t = 4294967296 := by rw [← Nat.pow_add, ht]
  have e1 : (x : Int) * 2 ^ s % 4294967296 = ((2 ^ s * (x % 2 ^ t) : Nat) : Int) := by
    have : ((x : Int) * 2 ^ s) = ((x * 2 ^ s : Nat) : Int) := by simp
    rw [this, natmod2]
    congr 1
    rw [Nat.mul_comm x, ← hP, Nat.mul_mod_mul_left]
  have hm : x % 2 ^ t + 1 ≤ 2 ^ t := Nat.mod_lt _ (Nat.pow_pos (by omega))
  have h2 : 2 ^ s * (x % 2 ^ t + 1) ≤ 2 ^ s * 2 ^ t := Nat.mul_le_mul_left _ hm
  rw [Nat.mul_add, hP] at h2
  have hl : D + 2 ^ s * (x % 2 ^ t) < 4294967296 := by omega
  refine ⟨?_, hl⟩
  rw [e1, (bits_u32_nat D _ (by omega) (by omega)).2.1, Nat.or_comm, ← Nat.two_pow_add_eq_or_of_lt hD, Nat.add_comm]
theorem raise_num {P s t k x : Nat} (o : Nat → Nat) (hP : 2 ^ s * 2 ^ t = P) : vb P (upd (upd o k (o k + 2 ^ s * (x % 2 ^ t))) (k + 1) (x / 2 ^ t)) (k + 2) = vb P o (k + 1) + P ^ k * (2 ^ s * x) := by
  rw [vb_upd, vb_upd]
  simp only [vb]
  have e : 2 ^ s * x = 2 ^ s * (x % 2 ^ t) + P * (x / 2 ^ t) := by
    rw [← hP, Nat.mul_assoc, ← Nat.mul_add, Nat.mod_add_div]
  rw [e, Nat.pow_succ, Nat.mul_add, Nat.mul_add, Nat.mul_assoc]
  omega
/-- What raise keeps: the number of what was done, times 2 to the s. -/
structure RaiseR (B L k s : Nat) (f : Nat → Nat) (o : Nat → Nat) (w wr : World) : Prop where
  out : Wr wr B 0 L o
  old : Below w.heap.size w wr
  lt : ∀ j, j < L → o j < 4294967296
  top : o k < 2 ^ s
  high : ∀ j, k < j → j < L → o j = 0
  num : vb 4294967296 o (k + 1) = 2 ^ s * vb 4294967296 f k
theorem Wr.set {w : World} {S o n : Nat} {f : Nat → Nat} (h : Wr w S o n f) (p y : Nat) (hp : p < n) : Wr (w.setCell ⟨S, o + p, none⟩ (.int .u32 (y : Nat))) S o n (upd f p y) := by
  refine ⟨by simpa using h.1, fun j hj => ⟨?_, ?_⟩⟩
  · by_cases e : j = p
    · subst e
      rw [World.cell?_setCell_same _ _ _ (h.2 j hj).1]
      simp [upd]
    · rw [World.cell?_setCell_other _ _ _ _ (by intro e2; apply e; injection e2 with _ e3; omega), (h.2 j hj).1]
      simp [upd, e]
  · rw [World.frozen?_setCell]; exact (h.2 j hj).2
theorem Wr.drew {w : World} {S o n : Nat} {f : Nat → Nat} (h : Wr w S o n f) : Wr w.drew S o n f := h
theorem RaiseR.next {B L k s t : Nat} {f o : Nat → Nat} {w wr : World} (h : RaiseR B L k s f o w wr) (hB : w.heap.size ≤ B) (hk : k + 1 < L) (ht : s + t = 32) (hf : f k < 4294967296) :
    RaiseR B L (k + 1) s f (upd (upd o k (o k + 2 ^ s * (f k % 2 ^ t))) (k + 1) (f k / 2 ^ t)) w ((wr.setCell ⟨B, k, none⟩ (.int .u32 ((o k + 2 ^ s * (f k % 2 ^ t) : Nat) : Int))).setCell ⟨B, k + 1, none⟩ (.int .u32 ((f k / 2 ^ t : Nat) : Int))).drew := by
  have hP : 2 ^ s * 2 ^ t = 4294967296 := by rw [← Nat.pow_add, ht]
  have hl := (shl_nat (f k) s t (o k) hf ht h.top).2
  have hd : f k / 2 ^ t < 2 ^ s := by rw [Nat.div_lt_iff_lt_mul (Nat.pow_pos (by omega)), hP]; exact hf
  have hs : 2 ^ s ≤ 4294967296 := by
    have h1 : 1 ≤ 2 ^ t := Nat.pow_pos (by omega)
    have := Nat.mul_le_mul_left (2 ^ s) h1
    omega
  have e1 := (h.out.set k (o k + 2 ^ s * (f k % 2 ^ t)) (by omega)).set (k + 1) (f k / 2 ^ t) hk
  simp only [Nat.zero_add] at e1
  refine ⟨e1.drew, ((h.old.setCell hB _).setCell hB _).drew, fun j hj => ?_, ?_, fun j h1 h2 => ?_, ?_⟩
  · unfold upd; split
    · omega
    · split
      · exact hl
      · exact h.lt j hj
  · unfold upd; rw [if_pos rfl]; exact hd
  · unfold upd; rw [if_neg (by omega), if_neg (by omega)]; exact h.high j (by omega) h2
  · rw [raise_num o hP, h.num]
    simp only [vb]
    rw [Nat.mul_add, Nat.mul_left_comm]

set_option maxRecDepth 100000 in
set_option maxHeartbeats 1000000 in
theorem raise_any (a : Option Addr) (n cap s : Nat) (f : Nat → Nat) (hn : (n : Int) ≤ 34000000000) (hs : s < 32) (hf : ∀ j, j < n → f j < 4294967296) (w : World) (hR : RdA w a n f) :
    Calls Try.prog 58 #[.slice a n cap, .int .i64 s] w fun e w' => ∃ B o, e = .returned (.slice (some ⟨B, 0, none⟩) ((n + 1 : Nat)) ((n + 1 : Nat))) ∧ w.heap.size ≤ B ∧ Wr w' B 0 (n + 1) o ∧ Below w.heap.size w w' ∧ (∀ j, j < n + 1 → o j < 4294967296) ∧ vb 4294967296 o (n + 1) = 2 ^ s * vb 4294967296 f n := by
  have HF := Lib.hid hf; clear hf
  have HR := Lib.hid hR; clear hR
  have hn0 : (0 : Int) ≤ n := by omega
  have hs0 : (0 : Int) ≤ s := by omega
  have hs1 : (s : Int) < 32 := by omega
  obtain ⟨t, ht⟩ : ∃ t : Nat, (32 : Int) - (s : Int) = (t : Int) := ⟨32 - s, by omega⟩
  have ht0 : (0 : Int) ≤ t := by omega
  have ht1 : (t : Int) ≤ 32 := by omega
  obtain ⟨L, hL⟩ : ∃ L : Nat, (n : Int) + 1 = (L : Int) := ⟨n + 1, by omega⟩
  have HL : Hid (n + 1 = L) := Lib.hid (by omega)
  have hLb : (L : Int) ≤ 34000000001 := by omega
  obtain ⟨i0, hi, hz0, hz1, hz2⟩ := info_parts info32
  go_enter Try.func58, Try.ntmps58
  go_wp2_with (at_make; refine wpList_make_full _ rfl _ _ 23 rfl w.heap.size 32 i0 (.int .u32 0) 1 Try.underlying23 hi hz0 hz1 .i64 .i64 _ _ L rfl rfl rfl rfl (by rw [hz2]; omega) (by unfold maxLen; omega) (Nat.le_refl _) ?_; intro w0 hown0 hgrow0)
  have hout : Wr w0 w.heap.size 0 L (fun _ => 0) := ⟨(hown0.lt _ rfl).2, fun j hj => ⟨by rw [Nat.zero_add]; exact (hown0.cellAt j (by omega)).trans (madeCells32_at L j hj), by rw [Nat.zero_add]; exact hown0.frozenAt j⟩⟩
  have hbel : Below w.heap.size w w0 := (Below.refl _ _).grown hgrow0 (Nat.le_refl _) (fun k hk => by cases hk)
  have HW := Lib.hid (And.intro hout hbel)
  clear hout hbel hown0 hgrow0 hL
  go_wp2
  go_loopw [14] (fun iv wr => ∃ k : Nat, k ≤ n ∧ iv = .int .i64 k ∧ Hid (∃ o, RaiseR w.heap.size L k s f o w wr)) (fun iv _ => n - (intOf iv).toNat)
  case atStart => exact ⟨0, by omega, rfl, Lib.hid ⟨fun _ => 0, HW.out.1, HW.out.2, fun _ _ => (by show 0 < 4294967296; omega), Nat.pow_pos (by omega), fun _ _ _ => rfl, by simp [vb]⟩⟩
  case round =>
    obtain ⟨k, hk, rfl, H⟩ := hrel
    have hk0 : (0 : Int) ≤ k := by omega
    by_cases hlt : k < n
    · have hkn : (k : Int) < n := by omega
      have hkL : (k : Int) < L := by have := HL.out; omega
      have hkL1 : (k : Int) + 1 < L := by have := HL.out; omega
      obtain ⟨o, HO⟩ := H.out
      obtain ⟨p, hix, hpb, -, cb⟩ := (HR.out.below HO.old).at_ cap k hlt
      have co : wr.cell? ⟨w.heap.size, k, none⟩ = some (.int .u32 (o k : Nat)) := by have := (HO.out.2 k (by omega)).1; rwa [Nat.zero_add] at this
      have fo : wr.frozen? ⟨w.heap.size, k, none⟩ = false := by have := (HO.out.2 k (by omega)).2; rwa [Nat.zero_add] at this
      have co1 : wr.cell? ⟨w.heap.size, k + 1, none⟩ = some (.int .u32 (o (k + 1) : Nat)) := by have := (HO.out.2 (k + 1) (by have := HL.out; omega)).1; rwa [Nat.zero_add] at this
      have fo1 : wr.frozen? ⟨w.heap.size, k + 1, none⟩ = false := by have := (HO.out.2 (k + 1) (by have := HL.out; omega)).2; rwa [Nat.zero_add] at this
      have HS := Lib.hid (shl_nat (f k) s t (o k) (HF.out k hlt) (by omega) HO.top).1
      have HN := Lib.hid (HO.next (Nat.le_refl _) (by have := HL.out; omega) (show s + t = 32 by omega) (HF.out k hlt))
      have HO' := Lib.hid HO; clear HO
      go_wp2_with fail
      go_region
      go_wp2
      go_roundw
      case rel =>
        refine ⟨k + 1, by omega, by go_num, Lib.hid ⟨upd (upd o k (o k + 2 ^ s * (f k % 2 ^ t))) (k + 1) (f k / 2 ^ t), ?_⟩⟩
        rw [HS.out]
        exact HN.out
      case measure => simp [intOf]; omega
    · obtain rfl : k = n := by omega
      obtain ⟨o, HO⟩ := H.out
      go_wp2
      go_ret
      exact ⟨w.heap.size, o, by rw [HL.out]; rfl, Nat.le_refl _, by rw [HL.out]; exact HO.out, HO.old, by rw [HL.out]; exact HO.lt, by rw [← HO.num]⟩
end Go.Proofs.Ytgegkffigjogcaa
namespace Go.Proofs.Ytgegkffigjogcaa
open Go.RowKit

theorem slice_mid (g o len cap l h : Nat) (hl : l ≤ h) (hh : h ≤ cap) (hc : l < cap) (w : World) : (Instr.slice 23 (.slice (some ⟨g, o, none⟩) len cap) (some (.int .i64 (l : Int))) (some (.int .i64 (h : Int))) none).run Try.prog w = .ok (.slice (some ⟨g, o + l, none⟩) (h - l) (cap - l)) w := by
  have hsz : (sizeOf (Try.prog.elem 23)).run Try.prog w = .ok 1 w := by kernel_rfl
  rw [run_slice_lh w 23 (some ⟨g, o, none⟩) len cap (by kernel_rfl) .i64 .i64 _ _ (by omega) (by omega) (by omega), hsz]
  simp only [Result.andThen, sliced, Int.toNat_natCast, Nat.mul_one]
  rw [if_neg (by omega)]
  simp only [Option.map_some, Lib.add_plain]
theorem Wr.but {S B o n : Nat} {f : Nat → Nat} {w w' : World} (h : Wr w B o n f) (hb : But S w w') (hne : B ≠ S) : Wr w' B o n f :=
  ⟨by rw [hb.size]; exact h.1, fun j hj => ⟨(hb.cell (p := ⟨B, o + j, none⟩) hne).trans (h.2 j hj).1, (World.frozen?_of_block (w := w) (a := ⟨B, o + j, none⟩) (hb.block B hne)).trans (h.2 j hj).2⟩⟩
theorem Wr.rd {w : World} {S o n : Nat} {f : Nat → Nat} (h : Wr w S o n f) : RdA w (some ⟨S, o, none⟩) n f := h.pt.rd
/-- What product leaves. -/
def ProdPost (n m V : Nat) (w : World) (e : Ending) (w' : World) : Prop :=
  ∃ (B : Nat) (o : Nat → Nat), e = .returned (.slice (some ⟨B, 0, none⟩) ((n + m : Nat)) ((n + m : Nat))) ∧ w.heap.size ≤ B ∧ Wr w' B 0 (n + m) o ∧ (∀ j, j < n + m → o j < 4294967296) ∧ vb 4294967296 o (n + m) = V ∧ Below w.heap.size w w'
structure ProdR (B n m i : Nat) (f g o : Nat → Nat) (w wr : World) : Prop where
  out : Wr wr B 0 (n + m) o
  old : Below w.heap.size w wr
  lt : ∀ j, j < n + m → o j < 4294967296
  high : ∀ j, i + m ≤ j → j < n + m → o j = 0
  num : vb 4294967296 o (n + m) = vb 4294967296 f i * vb 4294967296 g m
theorem prod_num {P n m i c x : Nat} {o ns f g : Nat → Nat} (hi : i < n) (h0 : o (i + m) = 0) (h : vb P o (n + m) = vb P f i * vb P g m) (h1 : vb P ns m + P ^ m * c = vb P (fun j => o (i + j)) m + vb P g m * x) (hx : f i = x) :
    vb P (upd (spl o i m ns) (i + m) c) (n + m) = vb P f (i + 1) * vb P g m := by
  have e1 := vb_set P (spl o i m ns) (i + m) c (n + m) (by omega)
  rw [spl_high _ _ _ _ _ (Nat.le_refl _), h0, Nat.mul_zero, Nat.add_zero] at e1
  have e2 := vb_spl P o ns i m (n + m) (by omega)
  simp only [vb]
  rw [e1, hx, Nat.add_mul, ← h, Nat.pow_add, Nat.mul_assoc, Nat.mul_assoc]
  have e3 := congrArg (P ^ i * ·) h1
  simp only [Nat.mul_add] at e3
  rw [Nat.mul_comm x]
  omega
theorem ProdR.next {B n m i c : Nat} {f g o ns : Nat → Nat} {w wr w1 : World} (h : ProdR B n m i f g o w wr) (hB : w.heap.size ≤ B) (hi : i < n) (hns : ∀ j, j < m → ns j < 4294967296) (hc : c < 4294967296)
    (h1 : vb 4294967296 ns m + 4294967296 ^ m * c = vb 4294967296 (fun j => o (i + j)) m + vb 4294967296 g m * f i) (hh : HoldsN B (0 + i) m ns wr w1) : ProdR B n m (i + 1) f g (upd (spl o i m ns) (i + m) c) w (w1.setCell ⟨B, i + m, none⟩ (.int .u32 (c : Nat))) := by
  have hw := (hh.splice h.out (by omega)).set (i + m) c (by omega)
  rw [Nat.zero_add] at hw
  refine ⟨hw, (But.below h.old hh.1 hB).setCell hB _, fun j hj => ?_, fun j h2 h3 => ?_, prod_num hi (h.high _ (Nat.le_refl _) (by omega)) h.num h1 rfl⟩
  · unfold upd; split
    · exact hc
    · exact spl_lt h.lt hns j hj
  · unfold upd; rw [if_neg (by omega), spl_high _ _ _ _ _ (by omega)]; exact h.high j (by omega) h3

set_option maxRecDepth 100000 in
set_option maxHeartbeats 1000000 in
theorem product_any (a : Option Addr) (n ca : Nat) (b : Option Addr) (m cb : Nat) (f g : Nat → Nat) (hn : (n : Int) ≤ 10000000000) (hm : (m : Int) ≤ 10000000000) (hf : ∀ j, j < n → f j < 4294967296) (hg : ∀ j, j < m → g j < 4294967296) (w : World) (hA : RdA w a n f) (hBb : RdA w b m g) (hbl : ∀ q, b = some q → q.block < w.heap.size) :
    Calls Try.prog 49 #[.slice a n ca, .slice b m cb] w (ProdPost n m (vb 4294967296 f n * vb 4294967296 g m) w) := by

  have HF := Lib.hid hf; clear hf
  have HG := Lib.hid hg; clear hg
  have HA := Lib.hid hA; clear hA
  have HB := Lib.hid hBb; clear hBb
  have HO : Hid (Off w.heap.size b) := Lib.hid (fun q hq => by have := hbl q hq; omega)
  clear hbl
  have hn0 : (0 : Int) ≤ n := by omega
  have hm0 : (0 : Int) ≤ m := by omega
  obtain ⟨L, hL⟩ : ∃ L : Nat, (n : Int) + (m : Int) = (L : Int) := ⟨n + m, by omega⟩
  have HL : Hid (n + m = L) := Lib.hid (by omega)
  have hLb : (L : Int) ≤ 20000000000 := by omega
  obtain ⟨i0, hi, hz0, hz1, hz2⟩ := info_parts info32
  go_enter Try.func49, Try.ntmps49
  go_wp2_with (at_make; refine wpList_make_full _ rfl _ _ 23 rfl w.heap.size 32 i0 (.int .u32 0) 1 Try.underlying23 hi hz0 hz1 .i64 .i64 _ _ L rfl rfl rfl rfl (by rw [hz2]; omega) (by unfold maxLen; omega) (Nat.le_refl _) ?_; intro w0 hown0 hgrow0)
  have hout : Wr w0 w.heap.size 0 L (fun _ => 0) := ⟨(hown0.lt _ rfl).2, fun j hj => ⟨by rw [Nat.zero_add]; exact (hown0.cellAt j (by omega)).trans (madeCells32_at L j hj), by rw [Nat.zero_add]; exact hown0.frozenAt j⟩⟩
  have hbel : Below w.heap.size w w0 := (Below.refl _ _).grown hgrow0 (Nat.le_refl _) (fun k hk => by cases hk)
  rw [← HL.out] at hout
  have HW := Lib.hid (And.intro hout hbel)
  clear hout hbel hown0 hgrow0 hL
  go_wp2
  go_loopw [16] (fun iv wr => ∃ i : Nat, i ≤ n ∧ iv = .int .i64 i ∧ Hid (∃ o, ProdR w.heap.size n m i f g o w wr)) (fun iv _ => n - (intOf iv).toNat)
  case atStart => exact ⟨0, by omega, rfl, Lib.hid ⟨fun _ => 0, HW.out.1, HW.out.2, fun _ _ => (by show 0 < 4294967296; omega), fun _ _ _ => rfl, by rw [vb_zero (fun _ _ => rfl)]; simp [vb]⟩⟩
  case round =>
    obtain ⟨i, hin, rfl, H⟩ := hrel
    have hi0 : (0 : Int) ≤ i := by omega
    by_cases hlt : i < n
    · have hiN : (i : Int) < n := by omega
      obtain ⟨o, HO2⟩ := H.out
      obtain ⟨p, hix, hpb, -, ca'⟩ := (HA.out.below HO2.old).at_ ca i hlt
      obtain ⟨t, ht⟩ : ∃ t : Nat, (i : Int) + (m : Int) = (t : Int) := ⟨i + m, by omega⟩
      have HT : Hid (i + m = t) := Lib.hid (by omega)
      have ht0 : (0 : Int) ≤ t := by omega
      have htL : (t : Int) < L := by have := HL.out; omega
      have hsl' := slice_mid w.heap.size 0 L L i t (by omega) (by have := HL.out; omega) (by have := HL.out; omega)
      obtain ⟨c2, hc2⟩ : ∃ c2, L - i = c2 := ⟨_, rfl⟩
      have hc2m : m ≤ c2 := by have := HL.out; omega
      rw [hc2, show t - i = m by omega, Nat.zero_add] at hsl'
      have hsl := hsl'
      clear hsl' hc2
      have HAT := Lib.hid (addTimes_any w.heap.size (0 + i) m c2 b m cb (f i) (fun j => o (i + j)) g (by omega) (by omega) (Nat.le_refl _) (HF.out i hlt) (fun j hj => HO2.lt (i + j) (by omega)) HG.out HO.out wr (HO2.out.sub i m (by omega)) (HB.out.below HO2.old))
      rw [Nat.zero_add] at HAT
      have co := (HO2.out.2 (i + m) (by omega))
      rw [Nat.zero_add, HT.out] at co
      obtain ⟨x, hx⟩ : ∃ x, f i = x := ⟨_, rfl⟩
      rw [hx] at ca' HAT
      have HX := Lib.hid hx; clear hx
      have HCO := Lib.hid co; clear co
      have HR := Lib.hid HO2; clear HO2
      go_wp2_with fail
      refine HAT.out.mono ?_
      rintro e w1 ⟨ns, c, rfl, hc, hns, hv, hh⟩
      have c1 : w1.cell? ⟨w.heap.size, t, none⟩ = some (.int .u32 (o t : Nat)) := by rw [hh.2, if_neg (by have := HT.out; omega)]; exact HCO.out.1
      have f1 : w1.frozen? ⟨w.heap.size, t, none⟩ = false := (hh.1.frozen _).trans HCO.out.2
      have hn' := HR.out.next (Nat.le_refl _) hlt hns hc (by rw [HX.out]; exact hv) (by rw [Nat.zero_add]; exact hh)
      rw [HT.out] at hn'
      have HN := Lib.hid hn'; clear hn' hv hh hns hc
      go_wp2
      go_roundw
      case rel => exact ⟨i + 1, by omega, by go_num, Lib.hid ⟨_, HN.out⟩⟩
      case measure => simp [intOf]; omega
    · obtain rfl : i = n := by omega
      obtain ⟨o, HO2⟩ := H.out
      go_wp2
      go_ret
      exact ⟨w.heap.size, o, by rw [HL.out]; rfl, Nat.le_refl _, HO2.out, HO2.lt, HO2.num, HO2.old⟩
end Go.Proofs.Ytgegkffigjogcaa
namespace Go.Proofs.Ytgegkffigjogcaa
open Go.RowKit

/-- A guess that is not too small and whose times fit in is the quotient. -/
theorem quot_of {A y q : Nat} (hy : 0 < y) (h1 : q * y ≤ A) (h2 : A / y ≤ q) : q = A / y :=
  Nat.le_antisymm ((Nat.le_div_iff_mul_le hy).2 h1) h2

/-- Half a quotient: the guess q, and what it leaves, r. -/
structure Half (y1 y0 v u q r : Nat) : Prop where
  split : q * y1 + r = v
  least : (v * 4294967296 + u) / (4294967296 * y1 + y0) ≤ q
  most : q ≤ 4294967297
  rest : r < 4294967296

section
variable {y1 y0 v u q r : Nat} (h31 : 2147483648 ≤ y1) (h32 : y1 < 4294967296) (hy0 : y0 < 4294967296) (hu : u < 4294967296)
include h31 h32 hy0 hu

theorem Half.start (hv : v < 4294967296 * y1 + y0) : Half y1 y0 v u (v / y1) (v % y1) := by
  have hpos : 0 < y1 := by omega
  have hd := Nat.div_add_mod v y1
  have hm := Nat.mod_lt v hpos
  refine ⟨by rw [Nat.mul_comm]; exact hd, ?_, ?_, by omega⟩
  · have hlt : v * 4294967296 + u < (v / y1 + 1) * (4294967296 * y1 + y0) := by
      have h1 : v + 1 ≤ (v / y1 + 1) * y1 := by rw [Nat.add_mul, Nat.one_mul, Nat.mul_comm]; omega
      have h2 : (v + 1) * 4294967296 ≤ (v / y1 + 1) * y1 * 4294967296 := Nat.mul_le_mul_right _ h1
      have h3 : (v / y1 + 1) * (4294967296 * y1 + y0) = (v / y1 + 1) * y1 * 4294967296 + (v / y1 + 1) * y0 := by grind
      omega
    have : (v * 4294967296 + u) / (4294967296 * y1 + y0) < v / y1 + 1 := by rw [Nat.div_lt_iff_lt_mul (by omega)]; exact hlt
    omega
  · have : v / y1 < 4294967298 := by rw [Nat.div_lt_iff_lt_mul hpos]; omega
    omega

omit hu in
theorem Half.fits (h : Half y1 y0 v u q r) (h2 : q * y0 ≤ 4294967296 * r + u) : q = (v * 4294967296 + u) / (4294967296 * y1 + y0) := by
  refine quot_of (by omega) ?_ h.least
  have h3 : q * (4294967296 * y1 + y0) = (q * y1) * 4294967296 + q * y0 := by grind
  have h4 := h.split
  omega

omit h31 h32 hy0 in
theorem Half.less (h : Half y1 y0 v u q r) (hv : v < 4294967296 * y1 + y0) (ht : 4294967296 ≤ q ∨ 4294967296 * r + u < q * y0) : (v * 4294967296 + u) / (4294967296 * y1 + y0) < q := by
  rcases ht with ht | ht
  · refine Nat.lt_of_lt_of_le ?_ ht
    rw [Nat.div_lt_iff_lt_mul (by omega)]
    omega
  · rw [Nat.div_lt_iff_lt_mul (by omega)]
    have h3 : q * (4294967296 * y1 + y0) = (q * y1) * 4294967296 + q * y0 := by grind
    have h4 := h.split
    omega

omit h31 h32 hy0 in
theorem Half.down {p : Nat} (h : Half y1 y0 v u (p + 1) r) (hv : v < 4294967296 * y1 + y0) (ht : 4294967296 ≤ p + 1 ∨ 4294967296 * r + u < (p + 1) * y0) (hr : r + y1 < 4294967296) : Half y1 y0 v u p (r + y1) := by
  have hl := h.less hu hv ht
  have h4 := h.split
  have h5 := h.most
  exact ⟨by rw [Nat.add_mul] at h4; omega, by omega, by omega, hr⟩

omit h31 h32 in
theorem Half.ends {p : Nat} (h : Half y1 y0 v u (p + 1) r) (hv : v < 4294967296 * y1 + y0) (ht : 4294967296 ≤ p + 1 ∨ 4294967296 * r + u < (p + 1) * y0) (hr : 4294967296 ≤ r + y1) : p = (v * 4294967296 + u) / (4294967296 * y1 + y0) := by
  have hl := h.less hu hv ht
  have h4 := h.split
  have h5 := h.most
  refine quot_of (by omega) ?_ (by omega)
  have h3 : p * (4294967296 * y1 + y0) = (p * y1) * 4294967296 + p * y0 := by grind
  have h6 : p * y0 ≤ 4294967296 * 4294967295 := Nat.mul_le_mul (by omega) (by omega)
  rw [Nat.add_mul] at h4
  omega

omit h31 h32 hy0 in
theorem Half.pos (h : Half y1 y0 v u q r) (hv : v < 4294967296 * y1 + y0) (ht : 4294967296 ≤ q ∨ 4294967296 * r + u < q * y0) : 0 < q := by
  exact Nat.lt_of_le_of_lt (Nat.zero_le _) (h.less hu hv ht)
end

/-- Both halves are the whole. -/
theorem halves {y hi u1 u0 : Nat} (hy : 0 < y) :
    (hi * 4294967296 + u1) / y * 4294967296 + ((hi * 4294967296 + u1) % y * 4294967296 + u0) / y = (hi * 18446744073709551616 + (u1 * 4294967296 + u0)) / y := by
  have hd := Nat.div_add_mod (hi * 4294967296 + u1) y
  have e : hi * 18446744073709551616 + (u1 * 4294967296 + u0) = (hi * 4294967296 + u1) * 4294967296 + u0 := by omega
  rw [e]
  have e2 : (hi * 4294967296 + u1) * 4294967296 + u0 = y * ((hi * 4294967296 + u1) / y * 4294967296) + ((hi * 4294967296 + u1) % y * 4294967296 + u0) := by
    have : (hi * 4294967296 + u1) * 4294967296 = (y * ((hi * 4294967296 + u1) / y) + (hi * 4294967296 + u1) % y) * 4294967296 := by rw [hd]
    rw [this]
    grind
  rw [e2, Nat.mul_add_div hy]
end Go.Proofs.Ytgegkffigjogcaa
namespace Go.Proofs.Ytgegkffigjogcaa
open Go.RowKit

/-- What Div64 leaves: the quotient; a rest that nobody asks for. -/
def DivPost (q : Nat) (w : World) (e : Ending) (w' : World) : Prop := (∃ r : Int, e = .returned (.tuple #[.int .u64 (q : Int), .int .u64 r])) ∧ w = w'

theorem divpost_mk {q : Nat} {z r : Int} {w : World} (h : z = (q : Int)) : DivPost q w (.returned (.tuple #[.int .u64 z, .int .u64 r])) w := ⟨⟨r, by rw [h]⟩, rfl⟩

theorem div64_fin {hi lo y y1 y0 u1 u0 P Q : Nat} (hy : y = 4294967296 * y1 + y0) (hlo : lo = 4294967296 * u1 + u0) (_hpos : 0 < y1) (_h1 : (hi : Int) < y)
    (eP : P = (hi * 4294967296 + u1) / y) (eQ : Q = ((hi * 4294967296 + u1) % y * 4294967296 + u0) / (4294967296 * y1 + y0)) : P * 4294967296 + Q = (hi * 18446744073709551616 + lo) / y := by
  rw [← hy] at eQ
  rw [eP, eQ, halves (by omega), hlo, Nat.mul_comm 4294967296 u1]

set_option maxRecDepth 100000 in
set_option maxHeartbeats 8000000 in
theorem div64_big (hi lo y y1 y0 u1 u0 : Nat) (h0 : (0 : Int) < hi) (h1 : (hi : Int) < y) (hy : y = 4294967296 * y1 + y0) (hlo : lo = 4294967296 * u1 + u0)
    (h31 : 2147483648 ≤ y1) (h32 : y1 < 4294967296) (hy0 : y0 < 4294967296) (hu1 : u1 < 4294967296) (hu0 : u0 < 4294967296) (w : World)
    (a1 : bits .and .u64 (y : Int) 4294967295 = (y0 : Int)) (a2 : bits .and .u64 (lo : Int) 4294967295 = (u0 : Int)) (a3 : bits .or .u64 (hi : Int) 0 = (hi : Int))
    (hL : ∀ w, Calls Try.prog 79 #[.int .u64 y] w fun e w' => e = .returned (.int .i64 0) ∧ w = w') :
    Calls Try.prog 77 #[.int .u64 hi, .int .u64 lo, .int .u64 y] w (DivPost ((hi * 18446744073709551616 + lo) / y) w) := by
  have hy' : (9223372036854775808 : Int) ≤ y := by omega
  have hy'' : (y : Int) ≤ 18446744073709551615 := by omega
  have hlo' : (lo : Int) ≤ 18446744073709551615 := by omega
  have n0 : ((y : Int) == 0) = false := by simp; omega
  have n1 : ¬ (y : Int) ≤ hi := by omega
  have n2 : ((hi : Int) == 0) = false := by simp; omega
  have n3 : (0 : Int) ≤ hi := by omega
  have n4 : (hi : Int) ≤ 18446744073709551615 := by omega
  have n5 : (0 : Int) ≤ lo := by omega
  have n6 : (0 : Int) ≤ y := by omega
  have d1 : (y : Int) / 4294967296 = (y1 : Int) := by omega
  have d2 : (lo : Int) / 4294967296 = (u1 : Int) := by omega
  have d3 : (lo : Int) / 18446744073709551616 = 0 := by omega
  have m1 : (1 : Int) ≤ y1 := by omega
  have m2 : (y1 : Int) ≤ 4294967295 := by omega
  have m3 : (u1 : Int) ≤ 4294967295 := by omega
  have m4 : (u0 : Int) ≤ 4294967295 := by omega
  have m5 : (0 : Int) ≤ u1 := by omega
  have m6 : (0 : Int) ≤ u0 := by omega
  have m7 : (0 : Int) ≤ y1 := by omega
  have H31 := Lib.hid h31
  have H32 := Lib.hid h32
  have HY0 := Lib.hid hy0
  have HU1 := Lib.hid hu1
  have HU2 := Lib.hid hu0
  have HY := Lib.hid hy
  have HLO := Lib.hid hlo
  have HV1 : Hid (hi < 4294967296 * y1 + y0) := Lib.hid (by omega)
  have hq := Half.start h31 h32 hy0 hu1 HV1.out
  obtain ⟨Q, eQ⟩ : ∃ Q, Q = hi / y1 := ⟨_, rfl⟩
  obtain ⟨R, eR⟩ : ∃ R, R = hi % y1 := ⟨_, rfl⟩
  rw [← eQ, ← eR] at hq
  have eq1 : (hi : Int) / (y1 : Int) = (Q : Int) := by rw [eQ]; simp
  have eq2 : IntKind.u64.wrap ((hi : Int) - IntKind.u64.wrap ((Q : Int) * (y1 : Int))) = (R : Int) := by
    have h := hq.split
    rw [← Int.natCast_mul, IntKind.wrap_u64, IntKind.wrap_u64]
    omega
  have bQ0 : (0 : Int) ≤ Q := by omega
  have bQ1 : (Q : Int) ≤ 4294967297 := by have := hq.most; omega
  have HQ0 := Lib.hid hq
  clear hq eQ eR hy hlo h31 h32 hy0 hu1 hu0 hy' 
  go_enter Try.func77, Try.ntmps77
  go_wp2_with fail
  refine (hL _).mono ?_
  rintro e w' ⟨rfl, rfl⟩
  go_wp2_with fail
  go_loop [15, 16] (fun a b => ∃ q r : Nat, a = .int .u64 q ∧ b = .int .u64 r ∧ Hid (Half y1 y0 hi u1 q r)) (fun a _ => (intOf a).toNat)
  case atStart => exact ⟨_, _, rfl, rfl, HQ0⟩
  case round =>
    obtain ⟨q, r, rfl, rfl, H1⟩ := hrel
    obtain ⟨m, hm⟩ : ∃ m : Nat, m = q * y0 := ⟨_, rfl⟩
    have r0 : (0 : Int) ≤ r := by omega
    have r1 : (r : Int) < 4294967296 := by have := H1.out.rest; omega
    have q0 : (0 : Int) ≤ q := by omega
    have q1 : (q : Int) ≤ 4294967297 := by have := H1.out.most; omega
    by_cases hbig : 4294967296 ≤ q
    · have t0 : (4294967296 : Int) ≤ q := by omega
      have ht : Hid (4294967296 ≤ q ∨ 4294967296 * r + u1 < q * y0) := Lib.hid (Or.inl hbig)
      have hqp : Hid (q = (q - 1) + 1) := Lib.hid (by omega)
      clear hbig hm
      by_cases hr : r + y1 < 4294967296
      · have t1 : ¬ (4294967296 : Int) ≤ r + y1 := by omega
        go_wp2
        go_round
        case rel => exact ⟨q - 1, r + y1, congrArg (Value.int .u64) (by have := hqp.out; omega), by go_num, Lib.hid (Half.down (p := q - 1) HU1.out (by rw [← hqp.out]; exact H1.out) HV1.out (by rw [← hqp.out]; exact ht.out) hr)⟩
        case measure => simp [intOf]; have := hqp.out; omega
      · have t1 : (4294967296 : Int) ≤ r + y1 := by omega
        obtain ⟨p, ep⟩ : ∃ p, p = q - 1 := ⟨_, rfl⟩
        have HQ1 := Lib.hid (Half.ends (p := q - 1) HY0.out HU1.out (by rw [← hqp.out]; exact H1.out) HV1.out (by rw [← hqp.out]; exact ht.out) (by omega))
        rw [← ep] at HQ1
        have hp : (q : Int) - 1 = (p : Int) := by have := hqp.out; omega
        clear ep
        clear hr
        obtain ⟨v, ev⟩ : ∃ v, v = (hi * 4294967296 + u1) % y := ⟨_, rfl⟩
        have hv : v < y := by rw [ev]; exact Nat.mod_lt _ (by omega)
        have EP : Hid (p = (hi * 4294967296 + u1) / y) := Lib.hid (by rw [HY.out]; exact HQ1.out)
        have tv : IntKind.u64.wrap (IntKind.u64.wrap (IntKind.u64.wrap ((hi : Int) * 4294967296) + (u1 : Int)) - IntKind.u64.wrap ((p : Int) * (y : Int))) = (v : Int) := by
          have hd := Nat.div_add_mod (hi * 4294967296 + u1) y
          rw [← EP.out, ← ev, Nat.mul_comm] at hd
          rw [← Int.natCast_mul]
          generalize p * y = m at *
          simp only [IntKind.wrap_u64]
          omega
        have EV := Lib.hid ev
        have c0 : (0 : Int) ≤ v := by omega
        have c1 : (v : Int) ≤ 18446744073709551615 := by omega
        have HV2 : Hid (v < 4294967296 * y1 + y0) := Lib.hid (by rw [← HY.out]; exact hv)
        have g5 : p < 4294967296 := by
          have h3 := HU1.out
          rw [EP.out, Nat.div_lt_iff_lt_mul (by omega)]
          omega
        have b5 : (p : Int) ≤ 4294967295 := by omega
        clear g5
        have b6 : (0 : Int) ≤ p := by omega
        have hq2 := Half.start H31.out H32.out HY0.out HU2.out HV2.out
        obtain ⟨Q2, eQ2⟩ : ∃ Q, Q = v / y1 := ⟨_, rfl⟩
        obtain ⟨R2, eR2⟩ : ∃ R, R = v % y1 := ⟨_, rfl⟩
        rw [← eQ2, ← eR2] at hq2
        have eq3 : (v : Int) / (y1 : Int) = (Q2 : Int) := by rw [eQ2]; simp
        have eq4 : IntKind.u64.wrap ((v : Int) - IntKind.u64.wrap ((Q2 : Int) * (y1 : Int))) = (R2 : Int) := by
          have h := hq2.split
          rw [← Int.natCast_mul, IntKind.wrap_u64, IntKind.wrap_u64]
          omega
        have bQ2 : (0 : Int) ≤ Q2 := by omega
        have bQ3 : (Q2 : Int) ≤ 4294967297 := by have := hq2.most; omega
        have HQ02 := Lib.hid hq2
        clear hq2 eQ2 eR2 ev hv
        go_wp2_with fail
        go_loop [18, 16] (fun a b => ∃ z rr : Nat, a = .int .u64 z ∧ b = .int .u64 rr ∧ Hid (Half y1 y0 v u0 z rr)) (fun a _ => (intOf a).toNat)
        case atStart => exact ⟨_, _, rfl, rfl, HQ02⟩
        case round =>
          obtain ⟨z, rr, rfl, rfl, H2⟩ := hrel
          obtain ⟨mm, hmm⟩ : ∃ mm : Nat, mm = z * y0 := ⟨_, rfl⟩
          have rr0 : (0 : Int) ≤ rr := by omega
          have rr1 : (rr : Int) < 4294967296 := by have := H2.out.rest; omega
          have zz0 : (0 : Int) ≤ z := by omega
          have zz1 : (z : Int) ≤ 4294967297 := by have := H2.out.most; omega
          by_cases hbigg : 4294967296 ≤ z
          · have tt0 : (4294967296 : Int) ≤ z := by omega
            have htt : Hid (4294967296 ≤ z ∨ 4294967296 * rr + u0 < z * y0) := Lib.hid (Or.inl hbigg)
            have hqpp : Hid (z = (z - 1) + 1) := Lib.hid (by omega)
            clear hbigg hmm
            by_cases hrr : rr + y1 < 4294967296
            · have tt1 : ¬ (4294967296 : Int) ≤ rr + y1 := by omega
              go_wp2
              go_round
              case rel => exact ⟨z - 1, rr + y1, congrArg (Value.int .u64) (by have := hqpp.out; omega), by go_num, Lib.hid (Half.down (p := z - 1) HU2.out (by rw [← hqpp.out]; exact H2.out) HV2.out (by rw [← hqpp.out]; exact htt.out) hrr)⟩
              case measure => simp [intOf]; have := hqpp.out; omega
            · have tt1 : (4294967296 : Int) ≤ rr + y1 := by omega
              obtain ⟨pp, epp⟩ : ∃ pp, pp = z - 1 := ⟨_, rfl⟩
              have HQ2 := Lib.hid (Half.ends (p := z - 1) HY0.out HU2.out (by rw [← hqpp.out]; exact H2.out) HV2.out (by rw [← hqpp.out]; exact htt.out) (by omega))
              rw [← epp] at HQ2
              have hpp : (z : Int) - 1 = (pp : Int) := by have := hqpp.out; omega
              clear epp
              clear hrr
              have fq := Lib.hid (div64_fin (P := p) (Q := pp) HY.out HLO.out (by have := H31.out; omega) h1 EP.out (by rw [← EV.out]; exact HQ2.out))
              have g7 : pp < 4294967296 := by
                have h := HV2.out
                have h3 := HU2.out
                have h5 := H31.out
                rw [HQ2.out, Nat.div_lt_iff_lt_mul (by omega)]
                omega
              have b7 : (pp : Int) ≤ 4294967295 := by omega
              clear g7
              have b8 : (0 : Int) ≤ pp := by omega
              go_wp2
              go_ret2
              exact divpost_mk (by have := fq.out; omega)
          · have tt0 : ¬ (4294967296 : Int) ≤ z := by omega
            have hww : IntKind.u64.wrap ((z : Int) * (y0 : Int)) = (mm : Int) := by
              have h1 : z * y0 ≤ 4294967295 * 4294967295 := Nat.mul_le_mul (by omega) (by have := HY0.out; omega)
              rw [← Int.natCast_mul, ← hmm, IntKind.wrap_u64]
              omega
            by_cases hgtt : 4294967296 * rr + u0 < mm
            · have tt2 : (4294967296 : Int) * rr + u0 < mm := by omega
              have htt : Hid (4294967296 ≤ z ∨ 4294967296 * rr + u0 < z * y0) := Lib.hid (Or.inr (by rw [← hmm]; exact hgtt))
              have hposs := H2.out.pos HU2.out HV2.out htt.out
              have hqpp : Hid (z = (z - 1) + 1) := Lib.hid (by omega)
              have zz2 : (1 : Int) ≤ z := by omega
              clear hbigg hmm hgtt hposs
              by_cases hrr : rr + y1 < 4294967296
              · have tt1 : ¬ (4294967296 : Int) ≤ rr + y1 := by omega
                go_wp2
                go_round
                case rel => exact ⟨z - 1, rr + y1, congrArg (Value.int .u64) (by have := hqpp.out; omega), by go_num, Lib.hid (Half.down (p := z - 1) HU2.out (by rw [← hqpp.out]; exact H2.out) HV2.out (by rw [← hqpp.out]; exact htt.out) hrr)⟩
                case measure => simp [intOf]; have := hqpp.out; omega
              · have tt1 : (4294967296 : Int) ≤ rr + y1 := by omega
                obtain ⟨pp, epp⟩ : ∃ pp, pp = z - 1 := ⟨_, rfl⟩
                have HQ2 := Lib.hid (Half.ends (p := z - 1) HY0.out HU2.out (by rw [← hqpp.out]; exact H2.out) HV2.out (by rw [← hqpp.out]; exact htt.out) (by omega))
                rw [← epp] at HQ2
                have hpp : (z : Int) - 1 = (pp : Int) := by have := hqpp.out; omega
                clear epp
                clear hrr
                have fq := Lib.hid (div64_fin (P := p) (Q := pp) HY.out HLO.out (by have := H31.out; omega) h1 EP.out (by rw [← EV.out]; exact HQ2.out))
                have g7 : pp < 4294967296 := by
                  have h := HV2.out
                  have h3 := HU2.out
                  have h5 := H31.out
                  rw [HQ2.out, Nat.div_lt_iff_lt_mul (by omega)]
                  omega
                have b7 : (pp : Int) ≤ 4294967295 := by omega
                clear g7
                have b8 : (0 : Int) ≤ pp := by omega
                go_wp2
                go_ret2
                exact divpost_mk (by have := fq.out; omega)
            · have tt2 : ¬ (4294967296 : Int) * rr + u0 < mm := by omega
              have HQ2 := Lib.hid (H2.out.fits H31.out H32.out HY0.out (by rw [← hmm]; omega))
              clear hbigg hmm hgtt
              have fq := Lib.hid (div64_fin (P := p) (Q := z) HY.out HLO.out (by have := H31.out; omega) h1 EP.out (by rw [← EV.out]; exact HQ2.out))
              have g7 : z < 4294967296 := by
                have h := HV2.out
                have h3 := HU2.out
                have h5 := H31.out
                rw [HQ2.out, Nat.div_lt_iff_lt_mul (by omega)]
                omega
              have b7 : (z : Int) ≤ 4294967295 := by omega
              clear g7
              have b8 : (0 : Int) ≤ z := by omega
              go_wp2
              go_ret2
              exact divpost_mk (by have := fq.out; omega)
    · have t0 : ¬ (4294967296 : Int) ≤ q := by omega
      have hw : IntKind.u64.wrap ((q : Int) * (y0 : Int)) = (m : Int) := by
        have h1 : q * y0 ≤ 4294967295 * 4294967295 := Nat.mul_le_mul (by omega) (by have := HY0.out; omega)
        rw [← Int.natCast_mul, ← hm, IntKind.wrap_u64]
        omega
      by_cases hgt : 4294967296 * r + u1 < m
      · have t2 : (4294967296 : Int) * r + u1 < m := by omega
        have ht : Hid (4294967296 ≤ q ∨ 4294967296 * r + u1 < q * y0) := Lib.hid (Or.inr (by rw [← hm]; exact hgt))
        have hpos := H1.out.pos HU1.out HV1.out ht.out
        have hqp : Hid (q = (q - 1) + 1) := Lib.hid (by omega)
        have q2 : (1 : Int) ≤ q := by omega
        clear hbig hm hgt hpos
        by_cases hr : r + y1 < 4294967296
        · have t1 : ¬ (4294967296 : Int) ≤ r + y1 := by omega
          go_wp2
          go_round
          case rel => exact ⟨q - 1, r + y1, congrArg (Value.int .u64) (by have := hqp.out; omega), by go_num, Lib.hid (Half.down (p := q - 1) HU1.out (by rw [← hqp.out]; exact H1.out) HV1.out (by rw [← hqp.out]; exact ht.out) hr)⟩
          case measure => simp [intOf]; have := hqp.out; omega
        · have t1 : (4294967296 : Int) ≤ r + y1 := by omega
          obtain ⟨p, ep⟩ : ∃ p, p = q - 1 := ⟨_, rfl⟩
          have HQ1 := Lib.hid (Half.ends (p := q - 1) HY0.out HU1.out (by rw [← hqp.out]; exact H1.out) HV1.out (by rw [← hqp.out]; exact ht.out) (by omega))
          rw [← ep] at HQ1
          have hp : (q : Int) - 1 = (p : Int) := by have := hqp.out; omega
          clear ep
          clear hr
          obtain ⟨v, ev⟩ : ∃ v, v = (hi * 4294967296 + u1) % y := ⟨_, rfl⟩
          have hv : v < y := by rw [ev]; exact Nat.mod_lt _ (by omega)
          have EP : Hid (p = (hi * 4294967296 + u1) / y) := Lib.hid (by rw [HY.out]; exact HQ1.out)
          have tv : IntKind.u64.wrap (IntKind.u64.wrap (IntKind.u64.wrap ((hi : Int) * 4294967296) + (u1 : Int)) - IntKind.u64.wrap ((p : Int) * (y : Int))) = (v : Int) := by
            have hd := Nat.div_add_mod (hi * 4294967296 + u1) y
            rw [← EP.out, ← ev, Nat.mul_comm] at hd
            rw [← Int.natCast_mul]
            generalize p * y = m at *
            simp only [IntKind.wrap_u64]
            omega
          have EV := Lib.hid ev
          have c0 : (0 : Int) ≤ v := by omega
          have c1 : (v : Int) ≤ 18446744073709551615 := by omega
          have HV2 : Hid (v < 4294967296 * y1 + y0) := Lib.hid (by rw [← HY.out]; exact hv)
          have g5 : p < 4294967296 := by
            have h3 := HU1.out
            rw [EP.out, Nat.div_lt_iff_lt_mul (by omega)]
            omega
          have b5 : (p : Int) ≤ 4294967295 := by omega
          clear g5
          have b6 : (0 : Int) ≤ p := by omega
          have hq2 := Half.start H31.out H32.out HY0.out HU2.out HV2.out
          obtain ⟨Q2, eQ2⟩ : ∃ Q, Q = v / y1 := ⟨_, rfl⟩
          obtain ⟨R2, eR2⟩ : ∃ R, R = v % y1 := ⟨_, rfl⟩
          rw [← eQ2, ← eR2] at hq2
          have eq3 : (v : Int) / (y1 : Int) = (Q2 : Int) := by rw [eQ2]; simp
          have eq4 : IntKind.u64.wrap ((v : Int) - IntKind.u64.wrap ((Q2 : Int) * (y1 : Int))) = (R2 : Int) := by
            have h := hq2.split
            rw [← Int.natCast_mul, IntKind.wrap_u64, IntKind.wrap_u64]
            omega
          have bQ2 : (0 : Int) ≤ Q2 := by omega
          have bQ3 : (Q2 : Int) ≤ 4294967297 := by have := hq2.most; omega
          have HQ02 := Lib.hid hq2
          clear hq2 eQ2 eR2 ev hv
          go_wp2_with fail
          go_loop [18, 16] (fun a b => ∃ z rr : Nat, a = .int .u64 z ∧ b = .int .u64 rr ∧ Hid (Half y1 y0 v u0 z rr)) (fun a _ => (intOf a).toNat)
          case atStart => exact ⟨_, _, rfl, rfl, HQ02⟩
          case round =>
            obtain ⟨z, rr, rfl, rfl, H2⟩ := hrel
            obtain ⟨mm, hmm⟩ : ∃ mm : Nat, mm = z * y0 := ⟨_, rfl⟩
            have rr0 : (0 : Int) ≤ rr := by omega
            have rr1 : (rr : Int) < 4294967296 := by have := H2.out.rest; omega
            have zz0 : (0 : Int) ≤ z := by omega
            have zz1 : (z : Int) ≤ 4294967297 := by have := H2.out.most; omega
            by_cases hbigg : 4294967296 ≤ z
            · have tt0 : (4294967296 : Int) ≤ z := by omega
              have htt : Hid (4294967296 ≤ z ∨ 4294967296 * rr + u0 < z * y0) := Lib.hid (Or.inl hbigg)
              have hqpp : Hid (z = (z - 1) + 1) := Lib.hid (by omega)
              clear hbigg hmm
              by_cases hrr : rr + y1 < 4294967296
              · have tt1 : ¬ (4294967296 : Int) ≤ rr + y1 := by omega
                go_wp2
                go_round
                case rel => exact ⟨z - 1, rr + y1, congrArg (Value.int .u64) (by have := hqpp.out; omega), by go_num, Lib.hid (Half.down (p := z - 1) HU2.out (by rw [← hqpp.out]; exact H2.out) HV2.out (by rw [← hqpp.out]; exact htt.out) hrr)⟩
                case measure => simp [intOf]; have := hqpp.out; omega
              · have tt1 : (4294967296 : Int) ≤ rr + y1 := by omega
                obtain ⟨pp, epp⟩ : ∃ pp, pp = z - 1 := ⟨_, rfl⟩
                have HQ2 := Lib.hid (Half.ends (p := z - 1) HY0.out HU2.out (by rw [← hqpp.out]; exact H2.out) HV2.out (by rw [← hqpp.out]; exact htt.out) (by omega))
                rw [← epp] at HQ2
                have hpp : (z : Int) - 1 = (pp : Int) := by have := hqpp.out; omega
                clear epp
                clear hrr
                have fq := Lib.hid (div64_fin (P := p) (Q := pp) HY.out HLO.out (by have := H31.out; omega) h1 EP.out (by rw [← EV.out]; exact HQ2.out))
                have g7 : pp < 4294967296 := by
                  have h := HV2.out
                  have h3 := HU2.out
                  have h5 := H31.out
                  rw [HQ2.out, Nat.div_lt_iff_lt_mul (by omega)]
                  omega
                have b7 : (pp : Int) ≤ 4294967295 := by omega
                clear g7
                have b8 : (0 : Int) ≤ pp := by omega
                go_wp2
                go_ret2
                exact divpost_mk (by have := fq.out; omega)
            · have tt0 : ¬ (4294967296 : Int) ≤ z := by omega
              have hww : IntKind.u64.wrap ((z : Int) * (y0 : Int)) = (mm : Int) := by
                have h1 : z * y0 ≤ 4294967295 * 4294967295 := Nat.mul_le_mul (by omega) (by have := HY0.out; omega)
                rw [← Int.natCast_mul, ← hmm, IntKind.wrap_u64]
                omega
              by_cases hgtt : 4294967296 * rr + u0 < mm
              · have tt2 : (4294967296 : Int) * rr + u0 < mm := by omega
                have htt : Hid (4294967296 ≤ z ∨ 4294967296 * rr + u0 < z * y0) := Lib.hid (Or.inr (by rw [← hmm]; exact hgtt))
                have hposs := H2.out.pos HU2.out HV2.out htt.out
                have hqpp : Hid (z = (z - 1) + 1) := Lib.hid (by omega)
                have zz2 : (1 : Int) ≤ z := by omega
                clear hbigg hmm hgtt hposs
                by_cases hrr : rr + y1 < 4294967296
                · have tt1 : ¬ (4294967296 : Int) ≤ rr + y1 := by omega
                  go_wp2
                  go_round
                  case rel => exact ⟨z - 1, rr + y1, congrArg (Value.int .u64) (by have := hqpp.out; omega), by go_num, Lib.hid (Half.down (p := z - 1) HU2.out (by rw [← hqpp.out]; exact H2.out) HV2.out (by rw [← hqpp.out]; exact htt.out) hrr)⟩
                  case measure => simp [intOf]; have := hqpp.out; omega
                · have tt1 : (4294967296 : Int) ≤ rr + y1 := by omega
                  obtain ⟨pp, epp⟩ : ∃ pp, pp = z - 1 := ⟨_, rfl⟩
                  have HQ2 := Lib.hid (Half.ends (p := z - 1) HY0.out HU2.out (by rw [← hqpp.out]; exact H2.out) HV2.out (by rw [← hqpp.out]; exact htt.out) (by omega))
                  rw [← epp] at HQ2
                  have hpp : (z : Int) - 1 = (pp : Int) := by have := hqpp.out; omega
                  clear epp
                  clear hrr
                  have fq := Lib.hid (div64_fin (P := p) (Q := pp) HY.out HLO.out (by have := H31.out; omega) h1 EP.out (by rw [← EV.out]; exact HQ2.out))
                  have g7 : pp < 4294967296 := by
                    have h := HV2.out
                    have h3 := HU2.out
                    have h5 := H31.out
                    rw [HQ2.out, Nat.div_lt_iff_lt_mul (by omega)]
                    omega
                  have b7 : (pp : Int) ≤ 4294967295 := by omega
                  clear g7
                  have b8 : (0 : Int) ≤ pp := by omega
                  go_wp2
                  go_ret2
                  exact divpost_mk (by have := fq.out; omega)
              · have tt2 : ¬ (4294967296 : Int) * rr + u0 < mm := by omega
                have HQ2 := Lib.hid (H2.out.fits H31.out H32.out HY0.out (by rw [← hmm]; omega))
                clear hbigg hmm hgtt
                have fq := Lib.hid (div64_fin (P := p) (Q := z) HY.out HLO.out (by have := H31.out; omega) h1 EP.out (by rw [← EV.out]; exact HQ2.out))
                have g7 : z < 4294967296 := by
                  have h := HV2.out
                  have h3 := HU2.out
                  have h5 := H31.out
                  rw [HQ2.out, Nat.div_lt_iff_lt_mul (by omega)]
                  omega
                have b7 : (z : Int) ≤ 4294967295 := by omega
                clear g7
                have b8 : (0 : Int) ≤ z := by omega
                go_wp2
                go_ret2
                exact divpost_mk (by have := fq.out; omega)
      · have t2 : ¬ (4294967296 : Int) * r + u1 < m := by omega
        have HQ1 := Lib.hid (H1.out.fits H31.out H32.out HY0.out (by rw [← hm]; omega))
        clear hbig hm hgt
        obtain ⟨v, ev⟩ : ∃ v, v = (hi * 4294967296 + u1) % y := ⟨_, rfl⟩
        have hv : v < y := by rw [ev]; exact Nat.mod_lt _ (by omega)
        have EP : Hid (q = (hi * 4294967296 + u1) / y) := Lib.hid (by rw [HY.out]; exact HQ1.out)
        have tv : IntKind.u64.wrap (IntKind.u64.wrap (IntKind.u64.wrap ((hi : Int) * 4294967296) + (u1 : Int)) - IntKind.u64.wrap ((q : Int) * (y : Int))) = (v : Int) := by
          have hd := Nat.div_add_mod (hi * 4294967296 + u1) y
          rw [← EP.out, ← ev, Nat.mul_comm] at hd
          rw [← Int.natCast_mul]
          generalize q * y = m at *
          simp only [IntKind.wrap_u64]
          omega
        have EV := Lib.hid ev
        have c0 : (0 : Int) ≤ v := by omega
        have c1 : (v : Int) ≤ 18446744073709551615 := by omega
        have HV2 : Hid (v < 4294967296 * y1 + y0) := Lib.hid (by rw [← HY.out]; exact hv)
        have g5 : q < 4294967296 := by
          have h3 := HU1.out
          rw [EP.out, Nat.div_lt_iff_lt_mul (by omega)]
          omega
        have b5 : (q : Int) ≤ 4294967295 := by omega
        clear g5
        have b6 : (0 : Int) ≤ q := by omega
        have hq2 := Half.start H31.out H32.out HY0.out HU2.out HV2.out
        obtain ⟨Q2, eQ2⟩ : ∃ Q, Q = v / y1 := ⟨_, rfl⟩
        obtain ⟨R2, eR2⟩ : ∃ R, R = v % y1 := ⟨_, rfl⟩
        rw [← eQ2, ← eR2] at hq2
        have eq3 : (v : Int) / (y1 : Int) = (Q2 : Int) := by rw [eQ2]; simp
        have eq4 : IntKind.u64.wrap ((v : Int) - IntKind.u64.wrap ((Q2 : Int) * (y1 : Int))) = (R2 : Int) := by
          have h := hq2.split
          rw [← Int.natCast_mul, IntKind.wrap_u64, IntKind.wrap_u64]
          omega
        have bQ2 : (0 : Int) ≤ Q2 := by omega
        have bQ3 : (Q2 : Int) ≤ 4294967297 := by have := hq2.most; omega
        have HQ02 := Lib.hid hq2
        clear hq2 eQ2 eR2 ev hv
        go_wp2_with fail
        go_loop [18, 16] (fun a b => ∃ z rr : Nat, a = .int .u64 z ∧ b = .int .u64 rr ∧ Hid (Half y1 y0 v u0 z rr)) (fun a _ => (intOf a).toNat)
        case atStart => exact ⟨_, _, rfl, rfl, HQ02⟩
        case round =>
          obtain ⟨z, rr, rfl, rfl, H2⟩ := hrel
          obtain ⟨mm, hmm⟩ : ∃ mm : Nat, mm = z * y0 := ⟨_, rfl⟩
          have rr0 : (0 : Int) ≤ rr := by omega
          have rr1 : (rr : Int) < 4294967296 := by have := H2.out.rest; omega
          have zz0 : (0 : Int) ≤ z := by omega
          have zz1 : (z : Int) ≤ 4294967297 := by have := H2.out.most; omega
          by_cases hbigg : 4294967296 ≤ z
          · have tt0 : (4294967296 : Int) ≤ z := by omega
            have htt : Hid (4294967296 ≤ z ∨ 4294967296 * rr + u0 < z * y0) := Lib.hid (Or.inl hbigg)
            have hqpp : Hid (z = (z - 1) + 1) := Lib.hid (by omega)
            clear hbigg hmm
            by_cases hrr : rr + y1 < 4294967296
            · have tt1 : ¬ (4294967296 : Int) ≤ rr + y1 := by omega
              go_wp2
              go_round
              case rel => exact ⟨z - 1, rr + y1, congrArg (Value.int .u64) (by have := hqpp.out; omega), by go_num, Lib.hid (Half.down (p := z - 1) HU2.out (by rw [← hqpp.out]; exact H2.out) HV2.out (by rw [← hqpp.out]; exact htt.out) hrr)⟩
              case measure => simp [intOf]; have := hqpp.out; omega
            · have tt1 : (4294967296 : Int) ≤ rr + y1 := by omega
              obtain ⟨pp, epp⟩ : ∃ pp, pp = z - 1 := ⟨_, rfl⟩
              have HQ2 := Lib.hid (Half.ends (p := z - 1) HY0.out HU2.out (by rw [← hqpp.out]; exact H2.out) HV2.out (by rw [← hqpp.out]; exact htt.out) (by omega))
              rw [← epp] at HQ2
              have hpp : (z : Int) - 1 = (pp : Int) := by have := hqpp.out; omega
              clear epp
              clear hrr
              have fq := Lib.hid (div64_fin (P := q) (Q := pp) HY.out HLO.out (by have := H31.out; omega) h1 EP.out (by rw [← EV.out]; exact HQ2.out))
              have g7 : pp < 4294967296 := by
                have h := HV2.out
                have h3 := HU2.out
                have h5 := H31.out
                rw [HQ2.out, Nat.div_lt_iff_lt_mul (by omega)]
                omega
              have b7 : (pp : Int) ≤ 4294967295 := by omega
              clear g7
              have b8 : (0 : Int) ≤ pp := by omega
              go_wp2
              go_ret2
              exact divpost_mk (by have := fq.out; omega)
          · have tt0 : ¬ (4294967296 : Int) ≤ z := by omega
            have hww : IntKind.u64.wrap ((z : Int) * (y0 : Int)) = (mm : Int) := by
              have h1 : z * y0 ≤ 4294967295 * 4294967295 := Nat.mul_le_mul (by omega) (by have := HY0.out; omega)
              rw [← Int.natCast_mul, ← hmm, IntKind.wrap_u64]
              omega
            by_cases hgtt : 4294967296 * rr + u0 < mm
            · have tt2 : (4294967296 : Int) * rr + u0 < mm := by omega
              have htt : Hid (4294967296 ≤ z ∨ 4294967296 * rr + u0 < z * y0) := Lib.hid (Or.inr (by rw [← hmm]; exact hgtt))
              have hposs := H2.out.pos HU2.out HV2.out htt.out
              have hqpp : Hid (z = (z - 1) + 1) := Lib.hid (by omega)
              have zz2 : (1 : Int) ≤ z := by omega
              clear hbigg hmm hgtt hposs
              by_cases hrr : rr + y1 < 4294967296
              · have tt1 : ¬ (4294967296 : Int) ≤ rr + y1 := by omega
                go_wp2
                go_round
                case rel => exact ⟨z - 1, rr + y1, congrArg (Value.int .u64) (by have := hqpp.out; omega), by go_num, Lib.hid (Half.down (p := z - 1) HU2.out (by rw [← hqpp.out]; exact H2.out) HV2.out (by rw [← hqpp.out]; exact htt.out) hrr)⟩
                case measure => simp [intOf]; have := hqpp.out; omega
              · have tt1 : (4294967296 : Int) ≤ rr + y1 := by omega
                obtain ⟨pp, epp⟩ : ∃ pp, pp = z - 1 := ⟨_, rfl⟩
                have HQ2 := Lib.hid (Half.ends (p := z - 1) HY0.out HU2.out (by rw [← hqpp.out]; exact H2.out) HV2.out (by rw [← hqpp.out]; exact htt.out) (by omega))
                rw [← epp] at HQ2
                have hpp : (z : Int) - 1 = (pp : Int) := by have := hqpp.out; omega
                clear epp
                clear hrr
                have fq := Lib.hid (div64_fin (P := q) (Q := pp) HY.out HLO.out (by have := H31.out; omega) h1 EP.out (by rw [← EV.out]; exact HQ2.out))
                have g7 : pp < 4294967296 := by
                  have h := HV2.out
                  have h3 := HU2.out
                  have h5 := H31.out
                  rw [HQ2.out, Nat.div_lt_iff_lt_mul (by omega)]
                  omega
                have b7 : (pp : Int) ≤ 4294967295 := by omega
                clear g7
                have b8 : (0 : Int) ≤ pp := by omega
                go_wp2
                go_ret2
                exact divpost_mk (by have := fq.out; omega)
            · have tt2 : ¬ (4294967296 : Int) * rr + u0 < mm := by omega
              have HQ2 := Lib.hid (H2.out.fits H31.out H32.out HY0.out (by rw [← hmm]; omega))
              clear hbigg hmm hgtt
              have fq := Lib.hid (div64_fin (P := q) (Q := z) HY.out HLO.out (by have := H31.out; omega) h1 EP.out (by rw [← EV.out]; exact HQ2.out))
              have g7 : z < 4294967296 := by
                have h := HV2.out
                have h3 := HU2.out
                have h5 := H31.out
                rw [HQ2.out, Nat.div_lt_iff_lt_mul (by omega)]
                omega
              have b7 : (z : Int) ≤ 4294967295 := by omega
              clear g7
              have b8 : (0 : Int) ≤ z := by omega
              go_wp2
              go_ret2
              exact divpost_mk (by have := fq.out; omega)

end Go.Proofs.Ytgegkffigjogcaa
namespace Go.Proofs.Ytgegkffigjogcaa
open Go.RowKit

theorem bitLen_bounds (x : Nat) (h : x < 18446744073709551616) (h0 : x ≠ 0) : 1 ≤ Lib.bitLen x ∧ 2 ^ (Lib.bitLen x - 1) ≤ x ∧ x < 2 ^ Lib.bitLen x := Lib.bitLenAux_bounds 64 x (by omega) h0

theorem bitLen_full (x : Nat) (h : x < 18446744073709551616) (h0 : 9223372036854775808 ≤ x) : Lib.bitLen x = 64 := by
  obtain ⟨-, h2, h3⟩ := bitLen_bounds x h (by omega)
  have h4 : ¬ Lib.bitLen x ≤ 63 := fun h => by
    have := Nat.pow_le_pow_right (n := 2) (by omega) h
    omega
  have h5 : ¬ 65 ≤ Lib.bitLen x := fun h => by
    have := Nat.pow_le_pow_right (n := 2) (by omega) (show 64 ≤ Lib.bitLen x - 1 by omega)
    omega
  omega

set_option maxRecDepth 100000 in
set_option maxHeartbeats 1000000 in
theorem div64_small (lo y : Nat) (h0 : (0 : Int) < y) (hlo : (lo : Int) ≤ 18446744073709551615) (w : World) :
    Calls Try.prog 77 #[.int .u64 0, .int .u64 lo, .int .u64 y] w fun e w' => e = .returned (.tuple #[.int .u64 ((lo / y : Nat) : Int), .int .u64 ((lo % y : Nat) : Int)]) ∧ w.drew = w' := by
  have n0 : ((y : Int) == 0) = false := by simp; omega
  have n1 : ¬ (y : Int) ≤ 0 := by omega
  have n2 : (1 : Int) ≤ y := by omega
  have n3 : (0 : Int) ≤ lo := by omega
  have n4 : (lo : Int) / y ≤ lo := by rw [← Int.natCast_ediv]; have := Nat.div_le_self lo y; omega
  have n5 : (0 : Int) ≤ (lo : Int) / y := Int.ediv_nonneg (by omega) (by omega)
  have n6 : IntKind.u64.wrap ((lo : Int) / y) = (lo : Int) / y := by rw [IntKind.wrap_u64]; omega
  go_enter Try.func77, Try.ntmps77
  go_wp2_with fail
  go_region
  go_wp2
  go_ret2
  exact ⟨by simp, rfl⟩

/-- What guess tells. -/
def guessN (high next b : Nat) : Nat := if b ≤ high then 18446744073709551615 else (high * 18446744073709551616 + next) / b

theorem div64_any (hi lo y : Nat) (hh : hi < 18446744073709551616) (hn : lo < 18446744073709551616) (hb : y < 18446744073709551616) (hb1 : 9223372036854775808 ≤ y) (h : hi < y) (w : World) :
    Calls Try.prog 77 #[.int .u64 hi, .int .u64 lo, .int .u64 y] w fun e w' => (∃ r : Int, e = .returned (.tuple #[.int .u64 ((hi * 18446744073709551616 + lo) / y : Nat), .int .u64 r])) ∧ ∃ m, w' = w.drewN m := by
  by_cases h0 : hi = 0
  · subst h0
    rw [Nat.zero_mul, Nat.zero_add]
    refine (div64_small lo y (by omega) (by omega) w).mono fun e w' ⟨he, hw⟩ => ⟨⟨_, he⟩, 1, hw ▸ rfl⟩
  · have hz : Lib.bitLen ((y : Int)).toNat = 64 := by rw [Int.toNat_natCast]; exact bitLen_full y hb hb1
    have hL : ∀ w, Calls Try.prog 79 #[.int .u64 y] w fun e w' => e = .returned (.int .i64 0) ∧ w = w' := fun w =>
      (Try.bits_LeadingZeros64 y w (by omega) (by omega)).mono fun e w' ⟨he, hw⟩ => ⟨by rw [he, hz]; rfl, hw.symm⟩
    have e1 : ∀ x : Nat, x < 18446744073709551616 → bits .and .u64 (x : Int) 4294967295 = ((x % 4294967296 : Nat) : Int) := fun x hx => by
      have := bits_and_u64_nat x 4294967295 hx (by omega)
      rw [show x &&& 4294967295 = x % 4294967296 from Nat.and_two_pow_sub_one_eq_mod x 32] at this
      exact this
    have e2 : bits .or .u64 (hi : Int) 0 = (hi : Int) := by
      have := bits_or_u64_nat hi 0 hh (by omega)
      rw [Nat.or_zero] at this
      exact this
    refine Calls.mono (R := DivPost ((hi * 18446744073709551616 + lo) / y) w) ?_ (fun e w' h => ⟨h.1, 0, h.2 ▸ rfl⟩)
    exact div64_big hi lo y (y / 4294967296) (y % 4294967296) (lo / 4294967296) (lo % 4294967296) (by omega) (by omega) (by omega) (by omega) (by omega) (by omega) (by omega) (by omega) (by omega) w (e1 y hb) (e1 lo hn) e2 hL
end Go.Proofs.Ytgegkffigjogcaa
namespace Go.Proofs.Ytgegkffigjogcaa
open Go.RowKit

theorem bitLen32 (x : Nat) (h : x < 4294967296) : Lib.bitLen x ≤ 32 := by
  by_cases h0 : x = 0
  · subst h0; decide
  · obtain ⟨h1, h2, -⟩ := bitLen_bounds x (by omega) h0
    rcases Nat.lt_or_ge 32 (Lib.bitLen x) with h3 | h3
    · have := Nat.pow_le_pow_right (show 0 < 2 by omega) (show 32 ≤ Lib.bitLen x - 1 by omega)
      omega
    · exact h3
theorem headroom_any (a : Option Addr) (k cap : Nat) (f : Nat → Nat) (hf : f k < 4294967296) (hn : (k : Int) ≤ 34000000000) (w : World) (hR : RdA w a (k + 1) f) :
    Calls Try.prog 59 #[.slice a ((k + 1 : Nat)) cap] w fun e w' => e = .returned (.int .i64 ((32 - Lib.bitLen (f k) : Nat) : Int)) ∧ w = w' := by
  obtain ⟨p, hix, -, -, ca⟩ := hR.at_ cap k (by omega)
  have hk0 : (0 : Int) ≤ k := by omega
  have hl := bitLen32 _ hf
  have hL : ∀ w, Calls Try.prog 73 #[.int .u32 (f k : Nat)] w fun e w' => e = .returned (.int .i64 ((32 - Lib.bitLen (f k) : Nat) : Int)) ∧ w = w' := fun w =>
    (Try.bits_LeadingZeros32 (f k : Nat) w (by omega) (by omega)).mono fun e w' ⟨he, hw⟩ => ⟨by rw [he, Int.toNat_natCast]; congr 2; omega, hw.symm⟩
  have HL := Lib.hid hL; clear hL hl hf
  clear hR
  go_enter Try.func59, Try.ntmps59
  go_wp2_with fail
  refine (HL.out _).mono ?_
  rintro e w' ⟨rfl, rfl⟩
  go_wp2
  go_ret
  exact ⟨rfl, rfl⟩

theorem high_wrap (x : Nat) (hx : x < 4294967296) : IntKind.u64.wrap (IntKind.u64.wrap (x : Int) * 4294967296) = ((x * 4294967296 : Nat) : Int) := by
  rw [IntKind.wrap_u64, IntKind.wrap_u64]; omega
theorem high_or (y x : Nat) (hy : y < 4294967296) (hx : x < 4294967296) : bits BinOp.or IntKind.u64 (IntKind.u64.wrap (IntKind.u64.wrap (y : Int) * 4294967296)) (IntKind.u64.wrap (x : Int)) = ((y * 4294967296 + x : Nat) : Int) := by
  rw [high_wrap y hy, show IntKind.u64.wrap (x : Int) = (x : Int) by rw [IntKind.wrap_u64]; omega, bits_or_u64_nat _ _ (by omega) (by omega), Nat.mul_comm]
  rw [show (4294967296 : Nat) = 2 ^ 32 by rfl, ← Nat.two_pow_add_eq_or_of_lt (by simpa using hx)]
theorem highest_one (a : Option Addr) (cap : Nat) (f : Nat → Nat) (hf : f 0 < 4294967296) (w : World) (hR : RdA w a 1 f) :
    Calls Try.prog 78 #[.slice a 1 cap] w fun e w' => e = .returned (.int .u64 ((f 0 * 4294967296 : Nat) : Int)) ∧ w = w' := by
  obtain ⟨p, hix', -, -, ca⟩ := hR.at_ cap 0 (by omega)
  have hix : ∀ w, (Instr.indexAt 23 (.slice a 1 cap) (.int .i64 0)).run Try.prog w = .ok (.pointer (some p)) w := hix'
  clear hix'
  have HF := Lib.hid hf; clear hf
  clear hR
  go_enter Try.func78, Try.ntmps78
  go_wp2
  go_ret
  refine ⟨?_, rfl⟩
  show Ending.returned (.int .u64 (IntKind.u64.wrap (IntKind.u64.wrap ((f 0 : Nat) : Int) * 4294967296))) = _
  rw [high_wrap _ HF.out]
theorem highest_two (a : Option Addr) (k cap : Nat) (f : Nat → Nat) (hf : ∀ j, j < k + 2 → f j < 4294967296) (hn : (k : Int) ≤ 34000000000) (w : World) (hR : RdA w a (k + 2) f) :
    Calls Try.prog 78 #[.slice a ((k + 2 : Nat)) cap] w fun e w' => e = .returned (.int .u64 ((f (k + 1) * 4294967296 + f k : Nat) : Int)) ∧ w = w' := by
  obtain ⟨p, hix, -, -, ca⟩ := hR.at_ cap k (by omega)
  obtain ⟨p1, hix1', -, -, ca1⟩ := hR.at_ cap (k + 1) (by omega)
  have hix1 : ∀ w, (Instr.indexAt 23 (.slice a (k + 2) cap) (.int .i64 ((k : Int) + 1))).run Try.prog w = .ok (.pointer (some p1)) w := hix1'
  clear hix1'
  have e1 : (k : Int) + 2 - 1 = (k : Int) + 1 := by omega
  have e2 : (k : Int) + 2 - 2 = (k : Int) := by omega
  have e3 : (1 : Int) < (k : Int) + 2 := by omega
  have HF := Lib.hid hf; clear hf
  have hk0 : (0 : Int) ≤ k := by omega
  clear hR
  go_enter Try.func78, Try.ntmps78
  go_wp2
  go_ret
  refine ⟨?_, rfl⟩
  show Ending.returned (.int .u64 (bits BinOp.or IntKind.u64 (IntKind.u64.wrap (IntKind.u64.wrap ((f (k + 1) : Nat) : Int) * 4294967296)) (IntKind.u64.wrap ((f k : Nat) : Int)))) = _
  rw [high_or _ _ (HF.out (k + 1) (by omega)) (HF.out k (by omega))]

theorem HoldsN.set {S o n : Nat} {cur : Nat → Nat} {w wr : World} (h : HoldsN S o n cur w wr) (i y : Nat) (hi : i < n) (hc : (wr.cell? ⟨S, o + i, none⟩).isSome = true) : HoldsN S o n (upd cur i y) w (wr.setCell ⟨S, o + i, none⟩ (.int .u32 (y : Nat))) := by
  refine ⟨h.1.set _ _, fun j => ?_⟩
  by_cases hj : j = o + i
  · subst hj
    obtain ⟨v, hv⟩ := Option.isSome_iff_exists.1 hc
    rw [if_pos (by omega), World.cell?_setCell_same _ _ _ hv]
    simp [upd]
  · rw [World.cell?_setCell_other _ _ _ _ (by intro e; apply hj; injection e with _ e2; exact e2.symm), h.2 j]
    by_cases h1 : o ≤ j ∧ j < o + n
    · rw [if_pos h1, if_pos h1]; unfold upd; rw [if_neg (by omega)]
    · rw [if_neg h1, if_neg h1]
theorem Wr.holds {w : World} {S o n : Nat} {f : Nat → Nat} (h : Wr w S o n f) : HoldsN S o n f w w := by
  refine ⟨But.refl _ _, fun j => ?_⟩
  by_cases h1 : o ≤ j ∧ j < o + n
  · rw [if_pos h1]
    have := (h.2 (j - o) (by omega)).1
    rwa [show o + (j - o) = j by omega] at this
  · rw [if_neg h1]
theorem lower_or (x s t T : Nat) (hx : x < 4294967296) (ht : s + t = 32) : bits .or .u32 ((x : Int) / 2 ^ s) ((T % 2 ^ s * 2 ^ t : Nat) : Int) = ((x / 2 ^ s + T % 2 ^ s * 2 ^ t : Nat) : Int) ∧ x / 2 ^ s + T % 2 ^ s * 2 ^ t < 4294967296 := by
  have hP : 2 ^ s * 2 ^ t = 4294967296 := by rw [← Nat.pow_add, ht]
  have h1 : x / 2 ^ s < 2 ^ t := by rw [Nat.div_lt_iff_lt_mul (Nat.pow_pos (by omega)), Nat.mul_comm, hP]; exact hx
  have h2 : T % 2 ^ s + 1 ≤ 2 ^ s := Nat.mod_lt _ (Nat.pow_pos (by omega))
  have h3 := Nat.mul_le_mul_right (2 ^ t) h2
  rw [hP, Nat.add_mul, Nat.one_mul] at h3
  have e1 : (x : Int) / 2 ^ s = ((x / 2 ^ s : Nat) : Int) := by simp
  have ht1 : 2 ^ t ≤ 4294967296 := by
    have h1 : 1 ≤ 2 ^ s := Nat.pow_pos (by omega)
    have := Nat.mul_le_mul_right (2 ^ t) h1
    omega
  have h0 := Nat.zero_le (x / 2 ^ s)
  have hq : x / 2 ^ s + T % 2 ^ s * 2 ^ t < 4294967296 := by generalize x / 2 ^ s = q at *; omega
  refine ⟨?_, hq⟩
  rw [e1, (bits_u32_nat _ _ (Nat.lt_of_le_of_lt (Nat.le_add_right _ _) hq) (Nat.lt_of_le_of_lt (Nat.le_add_left _ _) hq)).2.1, Nat.mul_comm, Nat.or_comm, ← Nat.two_pow_add_eq_or_of_lt h1, Nat.add_comm]
theorem lower_above (x s t : Nat) (ht : s + t = 32) (T : Nat) : (x : Int) * 2 ^ t % 4294967296 = (((x + 4294967296 * T) % 2 ^ s * 2 ^ t : Nat) : Int) := by
  have hP : 2 ^ s * 2 ^ t = 4294967296 := by rw [← Nat.pow_add, ht]
  have e : (x : Int) * 2 ^ t = ((x * 2 ^ t : Nat) : Int) := by simp
  rw [e, natmod2]
  congr 1
  rw [← hP, Nat.mul_mod_mul_right, Nat.mul_assoc, Nat.add_mul_mod_self_left]
theorem lower_num (x s t T : Nat) (ht : s + t = 32) : (x + 4294967296 * T) / 2 ^ s = x / 2 ^ s + T % 2 ^ s * 2 ^ t + 4294967296 * (T / 2 ^ s) := by
  have hP : 2 ^ s * 2 ^ t = 4294967296 := by rw [← Nat.pow_add, ht]
  have e : 4294967296 * T = 2 ^ s * (2 ^ t * (T % 2 ^ s) + 4294967296 * (T / 2 ^ s)) := by
    conv => lhs; rw [← Nat.mod_add_div T (2 ^ s)]
    rw [← hP]
    simp only [Nat.mul_add, Nat.mul_assoc, Nat.mul_left_comm]
  rw [e, Nat.add_mul_div_left _ _ (Nat.pow_pos (by omega)), Nat.mul_comm (2 ^ t), ← Nat.add_assoc]
/-- What lower keeps: the parts from c on have been shifted. -/
structure LowR (S o n c s t : Nat) (f cur : Nat → Nat) (ab : Nat) (w wr : World) : Prop where
  out : HoldsN S o n cur w wr
  lt : ∀ j, j < n → cur j < 4294967296
  todo : ∀ j, j < c → cur j = f j
  num : vb 4294967296 (fun j => cur (c + j)) (n - c) = vb 4294967296 (fun j => f (c + j)) (n - c) / 2 ^ s
  above : ab = vb 4294967296 (fun j => f (c + j)) (n - c) % 2 ^ s * 2 ^ t
theorem vb_tail (P : Nat) (f : Nat → Nat) (i n : Nat) (h : i < n) : vb P (fun j => f (i + j)) (n - i) = f i + P * vb P (fun j => f (i + 1 + j)) (n - (i + 1)) := by
  rw [show n - i = (n - (i + 1)) + 1 by omega, vb_low]
  congr 2
  exact vb_congr (fun j _ => by rw [show i + (j + 1) = i + 1 + j by omega])
theorem LowR.next {S o n i s t : Nat} {f cur : Nat → Nat} {ab : Nat} {w wr : World} (h : LowR S o n (i + 1) s t f cur ab w wr) (hW : Wr w S o n f) (hi : i < n) (ht : s + t = 32) (hf : f i < 4294967296) :
    LowR S o n i s t f (upd cur i (f i / 2 ^ s + ab)) ((f i + 4294967296 * vb 4294967296 (fun j => f (i + 1 + j)) (n - (i + 1))) % 2 ^ s * 2 ^ t) w (wr.setCell ⟨S, o + i, none⟩ (.int .u32 ((f i / 2 ^ s + ab : Nat) : Int))) := by
  have hl := (lower_or (f i) s t (vb 4294967296 (fun j => f (i + 1 + j)) (n - (i + 1))) hf ht).2
  rw [← h.above] at hl
  refine ⟨h.out.set i _ hi (by rw [((h.out.wr hW).2 i hi).1]; rfl), fun j hj => ?_, fun j hj => ?_, ?_, by rw [vb_tail _ _ _ _ hi]⟩
  · unfold upd; split
    · exact hl
    · exact h.lt j hj
  · unfold upd; rw [if_neg (by omega)]; exact h.todo j (by omega)
  · rw [vb_tail _ _ _ _ hi, vb_tail _ _ _ _ hi, lower_num _ _ _ _ ht, ← h.above, ← h.num]
    congr 1
    · simp [upd]
    · congr 1
      exact vb_congr (fun j _ => by unfold upd; rw [if_neg (by omega)])

set_option maxRecDepth 100000 in
set_option maxHeartbeats 1000000 in
theorem lower_any (S o n capS s : Nat) (f : Nat → Nat) (hn : (n : Int) ≤ 34000000000) (hs : s < 32) (hf : ∀ j, j < n → f j < 4294967296) (w : World) (hW : Wr w S o n f) :
    Calls Try.prog 69 #[.slice (some ⟨S, o, none⟩) n capS, .int .i64 s] w fun e w' => e = .returned (.tuple #[]) ∧ ∃ cur, HoldsN S o n cur w w' ∧ (∀ j, j < n → cur j < 4294967296) ∧ vb 4294967296 cur n = vb 4294967296 f n / 2 ^ s := by
  have HF := Lib.hid hf; clear hf
  have HW := Lib.hid hW; clear hW
  have hs0 : (0 : Int) ≤ s := by omega
  have hs1 : (s : Int) < 32 := by omega
  obtain ⟨t, ht⟩ : ∃ t : Nat, (32 : Int) - (s : Int) = (t : Int) := ⟨32 - s, by omega⟩
  have ht0 : (0 : Int) ≤ t := by omega
  have ht1 : (t : Int) ≤ 32 := by omega
  have HT : Hid (s + t = 32) := Lib.hid (by omega)
  go_enter Try.func69, Try.ntmps69
  go_wp2
  go_loopw [4, 5] (fun av iv wr => ∃ (z : Int) (c ab : Nat), c ≤ n ∧ z = (c : Int) - 1 ∧ iv = .int .i64 z ∧ av = .int .u32 ab ∧ Hid (∃ cur, LowR S o n c s t f cur ab w wr)) (fun _ iv _ => (intOf iv + 1).toNat)
  case atStart => exact ⟨(n : Int) - 1, n, 0, by omega, rfl, rfl, rfl, Lib.hid ⟨f, HW.out.holds, HF.out, fun _ _ => rfl, by rw [Nat.sub_self]; simp [vb], by rw [Nat.sub_self]; simp [vb]⟩⟩
  case round =>
    obtain ⟨z, c, ab, hc, hz, rfl, rfl, H⟩ := hrel
    cases c with
    | zero =>
      have hz1 : z < 0 := by omega
      have hzf : decide (0 ≤ z) = false := by rw [decide_eq_false_iff_not]; omega
      have HZ := Lib.hid hz; clear hz
      go_wp2
      obtain ⟨cur, HO⟩ := H.out
      go_end0
      refine ⟨rfl, cur, HO.out, HO.lt, ?_⟩
      have := HO.num
      simp only [Nat.zero_add, Nat.sub_zero] at this
      exact this
    | succ i =>
      obtain rfl : z = (i : Int) := by omega
      have hi0 : (0 : Int) ≤ i := by omega
      have hin : (i : Int) < n := by omega
      obtain ⟨cur, HO⟩ := H.out
      have hcur : cur i = f i := HO.todo i (by omega)
      obtain ⟨co, fo⟩ := (HO.out.wr HW.out).2 i (by omega)
      rw [hcur] at co
      have HA := Lib.hid (lower_above (f i) s t HT.out (vb 4294967296 (fun j => f (i + 1 + j)) (n - (i + 1))))
      have ho := (lower_or (f i) s t (vb 4294967296 (fun j => f (i + 1 + j)) (n - (i + 1))) (HF.out i (by omega)) HT.out).1
      rw [← HO.above] at ho
      have HOR := Lib.hid ho; clear ho
      have HN := Lib.hid (HO.next HW.out (show i < n by omega) HT.out (HF.out i (by omega)))
      clear hz HO hcur
      go_wp2
      go_roundw
      case rel =>
        rw [HA.out, HOR.out]
        exact ⟨_, i, _, by omega, rfl, rfl, rfl, Lib.hid ⟨_, HN.out⟩⟩
      case measure => first | (simp [intOf]; done) | (simp [intOf]; omega)
end Go.Proofs.Ytgegkffigjogcaa
namespace Go.Proofs.Ytgegkffigjogcaa
open Go.RowKit

/-- The two highest of n parts as one number. -/
def hiN (f : Nat → Nat) : Nat → Nat
  | 0 => 0
  | 1 => f 0 * 4294967296
  | k + 2 => f (k + 1) * 4294967296 + f k
theorem hiN_lt {f : Nat → Nat} : ∀ {n : Nat}, (∀ j, j < n → f j < 4294967296) → hiN f n < 18446744073709551616
  | 0, _ => by show 0 < _; omega
  | 1, h => by have := h 0 (by omega); show f 0 * 4294967296 < _; omega
  | k + 2, h => by have := h (k + 1) (by omega); have := h k (by omega); show f (k + 1) * 4294967296 + f k < _; omega
theorem hiN_ge {f : Nat → Nat} {k : Nat} (h : 2147483648 ≤ f k) : 9223372036854775808 ≤ hiN f (k + 1) := by
  cases k with
  | zero => show _ ≤ f 0 * 4294967296; omega
  | succ k => show _ ≤ f (k + 1) * 4294967296 + f k; omega
theorem highest_any (a : Option Addr) (k cap : Nat) (f : Nat → Nat) (hf : ∀ j, j < k + 1 → f j < 4294967296) (hn : (k : Int) ≤ 34000000000) (w : World) (hR : RdA w a (k + 1) f) :
    Calls Try.prog 78 #[.slice a ((k + 1 : Nat)) cap] w fun e w' => e = .returned (.int .u64 ((hiN f (k + 1) : Nat) : Int)) ∧ w = w' := by
  cases k with
  | zero => exact highest_one a cap f (hf 0 (by omega)) w hR
  | succ k => exact highest_two a k cap f hf (by omega) w hR

/-- What guess tells. -/
def gsN (r d : Nat → Nat) (n : Nat) : Nat := min ((r n * 18446744073709551616 + hiN r n) / hiN d n) 4294967295

set_option maxRecDepth 100000 in
set_option maxHeartbeats 1000000 in
theorem guess_any (S o capS : Nat) (a : Option Addr) (k capD : Nat) (r d : Nat → Nat) (hn : (k : Int) ≤ 34000000000) (hc : k + 1 ≤ capS) (hr : ∀ j, j < k + 2 → r j < 4294967296) (hd : ∀ j, j < k + 1 → d j < 4294967296) (hdk : 2147483648 ≤ d k) (w : World) (hP : Pt w S o (k + 2) r) (hR : RdA w a (k + 1) d) :
    Calls Try.prog 74 #[.slice (some ⟨S, o, none⟩) ((k + 2 : Nat)) capS, .slice a ((k + 1 : Nat)) capD] w fun e w' => e = .returned (.int .u32 ((gsN r d (k + 1) : Nat) : Int)) ∧ ∃ m, w' = w.drewN m := by
  have hk0 : (0 : Int) ≤ k := by omega
  have c1 : w.cell? ⟨S, o + (k + 1), none⟩ = some (.int .u32 (r (k + 1) : Nat)) := hP.2 (k + 1) (by omega)
  have hsl' := slice_nat (some ⟨S, o, none⟩) (k + 2) capS (k + 1) (by omega)
  have hsl : ∀ w, (Instr.slice 23 (.slice (some ⟨S, o, none⟩) (k + 2) capS) none (some (.int .i64 ((k : Int) + 1))) none).run Try.prog w = .ok (.slice (some ⟨S, o, none⟩) (k + 1) capS) w := hsl'
  clear hsl'
  have hw : IntKind.u64.wrap ((r (k + 1) : Nat) : Int) = ((r (k + 1) : Nat) : Int) := by rw [IntKind.wrap_u64]; have := hr (k + 1) (by omega); omega
  have h1 := highest_any (some ⟨S, o, none⟩) k capS r (fun j hj => hr j (by omega)) hn w.drew (.inr ⟨S, o, rfl, hP.1, fun j hj => hP.2 j (by omega)⟩)
  have h2 := highest_any a k capD d hd hn w.drew hR
  have h3 := div64_any (r (k + 1)) (hiN r (k + 1)) (hiN d (k + 1)) (by have := hr (k + 1) (by omega); omega) (hiN_lt (fun j hj => hr j (by omega))) (hiN_lt hd) (hiN_ge hdk) (by have := hr (k + 1) (by omega); have := hiN_ge hdk; omega) w.drew
  obtain ⟨A, hA⟩ : ∃ A, hiN r (k + 1) = A := ⟨_, rfl⟩
  obtain ⟨D, hD⟩ : ∃ D, hiN d (k + 1) = D := ⟨_, rfl⟩
  obtain ⟨x, hx⟩ : ∃ x, r (k + 1) = x := ⟨_, rfl⟩
  have hg : gsN r d (k + 1) = min ((x * 18446744073709551616 + A) / D) 4294967295 := by unfold gsN; rw [hA, hD, hx]
  rw [hA] at h1 h3
  rw [hD] at h2 h3
  rw [hx] at h3 c1 hw
  obtain ⟨Q, hQ⟩ : ∃ Q, (x * 18446744073709551616 + A) / D = Q := ⟨_, rfl⟩
  rw [hQ] at h3 hg
  rw [hg]
  clear hA hD hx hQ hg hr hd hdk hP hR
  have H1 := Lib.hid h1; clear h1
  have H2 := Lib.hid h2; clear h2
  have H3 := Lib.hid h3; clear h3
  go_enter Try.func74, Try.ntmps74
  go_wp2_with fail
  go_region_with (first | (go_at_call 78; ((with_reducible refine H1.out.mono ?_); rintro e w' ⟨rfl, rfl⟩)) | (go_at_call 78; ((with_reducible refine H2.out.mono ?_); rintro e w' ⟨rfl, rfl⟩)) | (go_at_call 77; ((with_reducible refine H3.out.mono ?_); rintro e w' ⟨⟨rr, rfl⟩, m, rfl⟩)))
  all_goals
    go_wp2
    go_ret
    refine ⟨?_, 1 + m, ?_⟩
    · show Ending.returned (.int .u32 (min (Q : Int) 4294967295)) = _
      congr 2
      omega
    · rw [← World.drewN_drewN]
end Go.Proofs.Ytgegkffigjogcaa

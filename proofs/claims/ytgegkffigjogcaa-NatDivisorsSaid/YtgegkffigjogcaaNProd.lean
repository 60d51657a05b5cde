/- What nat.product comes to. -/
import Derived.Test.YtgegkffigjogcaaNTimes
import Derived.Test.YtgegkffigjogcaaNRaise
import Derived.Lib.ItoaMem
namespace Go.Proofs.Ytgegkffigjogcaa
open Go.RowKit

theorem slice_mid (g o len cap l h : Nat) (hl : l ≤ h) (hh : h ≤ cap) (hc : l < cap) (w : World) : (Instr.slice 23 (.slice (some ⟨g, o, none⟩) len cap) (some (.int .i64 (l : Int))) (some (.int .i64 (h : Int))) none).run Try.prog w = .ok (.slice (some ⟨g, o + l, none⟩) (h - l) (cap - l)) w := by
  have hsz : (sizeOf (Try.prog.elem 23)).run Try.prog w = .ok 1 w := by kernel_rfl
  rw [run_slice_lh w 23 (some ⟨g, o, none⟩) len cap (by kernel_rfl) .i64 .i64 _ _ (by omega) (by omega) (by omega), hsz]
  simp only [Result.andThen, sliced, Int.toNat_natCast, Nat.mul_one]
  rw [if_neg (by omega)]
  simp only [Option.map_some, Lib.add_plain]
theorem Wr.but {S B o n : Nat} {f : Nat → Nat} {w w' : World} (h : Wr w B o n f) (hb : But S w w') (hne : B ≠ S) : Wr w' B o n f :=
  ⟨by rw [hb.size]; exact h.1, fun j hj => ⟨(hb.cell (p := ⟨B, o + j, none⟩) hne).trans (h.2 j hj).1, (World.frozen?_of_block (w := w) (a := ⟨B, o + j, none⟩) (hb.block B hne)).trans (h.2 j hj).2⟩⟩
theorem Wr.rd {w : World} {S o n : Nat} {f : Nat → Nat} (h : Wr w S o n f) : RdA w (some ⟨S, o, none⟩) n f := h.pt.rd
/-- What product leaves. -/
def ProdPost (n m V : Nat) (w : World) (e : Ending) (w' : World) : Prop :=
  ∃ (B : Nat) (o : Nat → Nat), e = .returned (.slice (some ⟨B, 0, none⟩) ((n + m : Nat)) ((n + m : Nat))) ∧ w.heap.size ≤ B ∧ Wr w' B 0 (n + m) o ∧ (∀ j, j < n + m → o j < 4294967296) ∧ vb 4294967296 o (n + m) = V ∧ Below w.heap.size w w'
structure ProdR (B n m i : Nat) (f g o : Nat → Nat) (w wr : World) : Prop where
  out : Wr wr B 0 (n + m) o
  old : Below w.heap.size w wr
  lt : ∀ j, j < n + m → o j < 4294967296
  high : ∀ j, i + m ≤ j → j < n + m → o j = 0
  num : vb 4294967296 o (n + m) = vb 4294967296 f i * vb 4294967296 g m
theorem prod_num {P n m i c x : Nat} {o ns f g : Nat → Nat} (hi : i < n) (h0 : o (i + m) = 0) (h : vb P o (n + m) = vb P f i * vb P g m) (h1 : vb P ns m + P ^ m * c = vb P (fun j => o (i + j)) m + vb P g m * x) (hx : f i = x) :
    vb P (upd (spl o i m ns) (i + m) c) (n + m) = vb P f (i + 1) * vb P g m := by
  have e1 := vb_set P (spl o i m ns) (i + m) c (n + m) (by omega)
  rw [spl_high _ _ _ _ _ (Nat.le_refl _), h0, Nat.mul_zero, Nat.add_zero] at e1
  have e2 := vb_spl P o ns i m (n + m) (by omega)
  simp only [vb]
  rw [e1, hx, Nat.add_mul, ← h, Nat.pow_add, Nat.mul_assoc, Nat.mul_assoc]
  have e3 := congrArg (P ^ i * ·) h1
  simp only [Nat.mul_add] at e3
  rw [Nat.mul_comm x]
  omega
theorem ProdR.next {B n m i c : Nat} {f g o ns : Nat → Nat} {w wr w1 : World} (h : ProdR B n m i f g o w wr) (hB : w.heap.size ≤ B) (hi : i < n) (hns : ∀ j, j < m → ns j < 4294967296) (hc : c < 4294967296)
    (h1 : vb 4294967296 ns m + 4294967296 ^ m * c = vb 4294967296 (fun j => o (i + j)) m + vb 4294967296 g m * f i) (hh : HoldsN B (0 + i) m ns wr w1) : ProdR B n m (i + 1) f g (upd (spl o i m ns) (i + m) c) w (w1.setCell ⟨B, i + m, none⟩ (.int .u32 (c : Nat))) := by
  have hw := (hh.splice h.out (by omega)).set (i + m) c (by omega)
  rw [Nat.zero_add] at hw
  refine ⟨hw, (But.below h.old hh.1 hB).setCell hB _, fun j hj => ?_, fun j h2 h3 => ?_, prod_num hi (h.high _ (Nat.le_refl _) (by omega)) h.num h1 rfl⟩
  · unfold upd; split
    · exact hc
    · exact spl_lt h.lt hns j hj
  · unfold upd; rw [if_neg (by omega), spl_high _ _ _ _ _ (by omega)]; exact h.high j (by omega) h3

set_option maxRecDepth 100000 in
set_option maxHeartbeats 1000000 in
theorem product_any (a : Option Addr) (n ca : Nat) (b : Option Addr) (m cb : Nat) (f g : Nat → Nat) (hn : (n : Int) ≤ 10000000000) (hm : (m : Int) ≤ 10000000000) (hf : ∀ j, j < n → f j < 4294967296) (hg : ∀ j, j < m → g j < 4294967296) (w : World) (hA : RdA w a n f) (hBb : RdA w b m g) (hbl : ∀ q, b = some q → q.block < w.heap.size) :
    Calls Try.prog 49 #[.slice a n ca, .slice b m cb] w (ProdPost n m (vb 4294967296 f n * vb 4294967296 g m) w) := by

  have HF := Lib.hid hf; clear hf
  have HG := Lib.hid hg; clear hg
  have HA := Lib.hid hA; clear hA
  have HB := Lib.hid hBb; clear hBb
  have HO : Hid (Off w.heap.size b) := Lib.hid (fun q hq => by have := hbl q hq; omega)
  clear hbl
  have hn0 : (0 : Int) ≤ n := by omega
  have hm0 : (0 : Int) ≤ m := by omega
  obtain ⟨L, hL⟩ : ∃ L : Nat, (n : Int) + (m : Int) = (L : Int) := ⟨n + m, by omega⟩
  have HL : Hid (n + m = L) := Lib.hid (by omega)
  have hLb : (L : Int) ≤ 20000000000 := by omega
  obtain ⟨i0, hi, hz0, hz1, hz2⟩ := info_parts info32
  go_enter Try.func49, Try.ntmps49
  go_wp2_with (at_make; refine wpList_make_full _ rfl _ _ 23 rfl w.heap.size 32 i0 (.int .u32 0) 1 Try.underlying23 hi hz0 hz1 .i64 .i64 _ _ L rfl rfl rfl rfl (by rw [hz2]; omega) (by unfold maxLen; omega) (Nat.le_refl _) ?_; intro w0 hown0 hgrow0)
  have hout : Wr w0 w.heap.size 0 L (fun _ => 0) := ⟨(hown0.lt _ rfl).2, fun j hj => ⟨by rw [Nat.zero_add]; exact (hown0.cellAt j (by omega)).trans (madeCells32_at L j hj), by rw [Nat.zero_add]; exact hown0.frozenAt j⟩⟩
  have hbel : Below w.heap.size w w0 := (Below.refl _ _).grown hgrow0 (Nat.le_refl _) (fun k hk => by cases hk)
  rw [← HL.out] at hout
  have HW := Lib.hid (And.intro hout hbel)
  clear hout hbel hown0 hgrow0 hL
  go_wp2
  go_loopw [16] (fun iv wr => ∃ i : Nat, i ≤ n ∧ iv = .int .i64 i ∧ Hid (∃ o, ProdR w.heap.size n m i f g o w wr)) (fun iv _ => n - (intOf iv).toNat)
  case atStart => exact ⟨0, by omega, rfl, Lib.hid ⟨fun _ => 0, HW.out.1, HW.out.2, fun _ _ => (by show 0 < 4294967296; omega), fun _ _ _ => rfl, by rw [vb_zero (fun _ _ => rfl)]; simp [vb]⟩⟩
  case round =>
    obtain ⟨i, hin, rfl, H⟩ := hrel
    have hi0 : (0 : Int) ≤ i := by omega
    by_cases hlt : i < n
    · have hiN : (i : Int) < n := by omega
      obtain ⟨o, HO2⟩ := H.out
      obtain ⟨p, hix, hpb, -, ca'⟩ := (HA.out.below HO2.old).at_ ca i hlt
      obtain ⟨t, ht⟩ : ∃ t : Nat, (i : Int) + (m : Int) = (t : Int) := ⟨i + m, by omega⟩
      have HT : Hid (i + m = t) := Lib.hid (by omega)
      have ht0 : (0 : Int) ≤ t := by omega
      have htL : (t : Int) < L := by have := HL.out; omega
      have hsl' := slice_mid w.heap.size 0 L L i t (by omega) (by have := HL.out; omega) (by have := HL.out; omega)
      obtain ⟨c2, hc2⟩ : ∃ c2, L - i = c2 := ⟨_, rfl⟩
      have hc2m : m ≤ c2 := by have := HL.out; omega
      rw [hc2, show t - i = m by omega, Nat.zero_add] at hsl'
      have hsl := hsl'
      clear hsl' hc2
      have HAT := Lib.hid (addTimes_any w.heap.size (0 + i) m c2 b m cb (f i) (fun j => o (i + j)) g (by omega) (by omega) (Nat.le_refl _) (HF.out i hlt) (fun j hj => HO2.lt (i + j) (by omega)) HG.out HO.out wr (HO2.out.sub i m (by omega)) (HB.out.below HO2.old))
      rw [Nat.zero_add] at HAT
      have co := (HO2.out.2 (i + m) (by omega))
      rw [Nat.zero_add, HT.out] at co
      obtain ⟨x, hx⟩ : ∃ x, f i = x := ⟨_, rfl⟩
      rw [hx] at ca' HAT
      have HX := Lib.hid hx; clear hx
      have HCO := Lib.hid co; clear co
      have HR := Lib.hid HO2; clear HO2
      go_wp2_with fail
      refine HAT.out.mono ?_
      rintro e w1 ⟨ns, c, rfl, hc, hns, hv, hh⟩
      have c1 : w1.cell? ⟨w.heap.size, t, none⟩ = some (.int .u32 (o t : Nat)) := by rw [hh.2, if_neg (by have := HT.out; omega)]; exact HCO.out.1
      have f1 : w1.frozen? ⟨w.heap.size, t, none⟩ = false := (hh.1.frozen _).trans HCO.out.2
      have hn' := HR.out.next (Nat.le_refl _) hlt hns hc (by rw [HX.out]; exact hv) (by rw [Nat.zero_add]; exact hh)
      rw [HT.out] at hn'
      have HN := Lib.hid hn'; clear hn' hv hh hns hc
      go_wp2
      go_roundw
      case rel => exact ⟨i + 1, by omega, by go_num, Lib.hid ⟨_, HN.out⟩⟩
      case measure => simp [intOf]; omega
    · obtain rfl : i = n := by omega
      obtain ⟨o, HO2⟩ := H.out
      go_wp2
      go_ret
      exact ⟨w.heap.size, o, by rw [HL.out]; rfl, Nat.le_refl _, HO2.out, HO2.lt, HO2.num, HO2.old⟩
end Go.Proofs.Ytgegkffigjogcaa

/- slices.Chunk of bytes, two by two: the iterator that it gives. -/
import Derived.Test.YtaopmcpihdcaiaaNFit
import Derived.Test.YtaopmcpihdcaiaaFen
import Derived.RangeFuncNested
import Derived.RangeFuncBound
import Derived.RangeFuncCalls
import Derived.RangeFuncLeaves
import Derived.RangeFuncBox
import Derived.Shelf.Abstract
import Derived.Shelf.RegionOpen
import Derived.OwnWalkIn
import Derived.TacticsInMore
import Derived.LoopNIn
import Derived.LoopIn
namespace Go.Proofs.Ytaopmcpihdcaiaa
open Go.RowKit Go.Shelf
attribute [local go_sem] Oper.semAt_some

/-- The pairs: two bytes each, at their places. -/
def pairV (b o k : Nat) : Value := .slice (some ⟨b, o + 2 * k, none⟩) 2 2
/-- What has come when k rounds are over. -/
def uptoK (m : Nat) : Nat → List { k : Nat // k < m }
  | 0 => []
  | k + 1 => if h : k < m then uptoK m k ++ [⟨k, h⟩] else uptoK m k
theorem uptoK_succ {m k : Nat} (h : k < m) : uptoK m (k + 1) = uptoK m k ++ [⟨k, h⟩] := by rw [uptoK, dif_pos h]
theorem uptoK_length {m k : Nat} (h : k ≤ m) : (uptoK m k).length = k := by
  induction k with
  | zero => rfl
  | succ k ih => rw [uptoK_succ (by omega), List.length_append, ih (by omega)]; rfl
/-- What a round keeps: what lay below, and the two boxes that the iterator reads. -/
def KpC (n₀ Bs Bn : Nat) (s : Value) (W W' : World) : Prop := Below n₀ W W' ∧ (Boxed W Bs 22 s → Boxed W' Bs 22 s) ∧ (Boxed W Bn 3 (.int .i64 2) → Boxed W' Bn 3 (.int .i64 2))
set_option maxRecDepth 100000 in
set_option maxHeartbeats 2000000 in
theorem chunk1_in (n l Bs Bn n₀ b o len cap m : Nat) (hlen : len = 2 * m) (hm : m ≤ 4000000) (hcap : len ≤ cap) (J Jx : List { k : Nat // k < m } → World → Prop) (W : World) (hJ : AbidesFrom W.heap.size J)
    (hY : ∀ pre x W1, J pre W1 → pre.length < m → YieldAt (FW none) (n - 1) Try.prog l #[pairV b o x.1] W1 fun e W' =>
      (e = .returned (.bool true) ∧ J (pre ++ [x]) W' ∧ KpC n₀ Bs Bn (.slice (some ⟨b, o, none⟩) len cap) W1 W') ∨ (e = .returned (.bool false) ∧ Jx (pre ++ [x]) W'))
    (hBs : Boxed W Bs 22 (.slice (some ⟨b, o, none⟩) len cap)) (hBn : Boxed W Bn 3 (.int .i64 2)) (h0 : J [] W) :
    CallsIn (FW none) n Try.prog 22 #[.func (.yield l) #[] #[], .pointer (some ⟨Bs, 0, none⟩), .pointer (some ⟨Bn, 0, none⟩)] W fun e W' => (∃ v, e = .returned v) ∧ ((∃ ys, ys = uptoK m m ∧ J ys W') ∨ (∃ pre, (∃ k, k ≤ m ∧ pre = uptoK m k) ∧ Jx pre W')) := by
  have HL := Lib.hid hlen; clear hlen
  refine callsIn_of_wp Try.func22 rfl trivial ?_ rfl
  simp only [Try.ntmps22, List.size_toArray, List.length_cons, List.length_nil, Nat.reduceAdd, Nat.reduceSub, Array.replicate_succ, Array.replicate_zero, List.push_toArray, List.append_toArray, List.nil_append, List.cons_append]
  gi_wp2
  gi_loopw [4] (fun i wr => ∃ k : Nat, k ≤ m ∧ i = .int .i64 ((2 * k : Nat) : Int) ∧ Hid (J (uptoK m k) wr ∧ Boxed wr Bs 22 (.slice (some ⟨b, o, none⟩) len cap) ∧ Boxed wr Bn 3 (.int .i64 2))) (fun i _ => len - (intOf i).toNat)
  case atStart => exact ⟨0, by omega, rfl, Lib.hid ⟨h0, hBs, hBn⟩⟩
  case round =>
    obtain ⟨k, hk, rfl, H⟩ := hrel
    have c1 := H.out.2.1.cell
    have c2 := H.out.2.2.cell
    obtain ⟨i, hi⟩ : ∃ i : Nat, 2 * k = i := ⟨_, rfl⟩
    rw [hi]
    have hi0 : (0 : Int) ≤ i := by omega
    by_cases hlt : k < m
    · have hlt' : (i : Int) < len := by have := HL.out; omega
      gi_wp2
      obtain ⟨d, hd⟩ : ∃ d, len - i = d := ⟨_, rfl⟩
      obtain ⟨e, he⟩ : ∃ e, cap - i = e := ⟨_, rfl⟩
      have hsl : ∀ wx, (Instr.sliceAt 22 (.slice (some ⟨b, o, none⟩) len cap) (some (.int .i64 (i : Int))) none none).run Try.prog wx = .ok (.slice (some ⟨b, o + i, none⟩) d e) wx := fun wx => by
        have hsz : ∀ w, (sizeOf (Try.prog.elem 22)).run Try.prog w = .ok 1 w := fun w => by kernel_rfl
        rw [run_sliceAt_slice (P := Try.prog) (w := wx) 22 _ _ _ _ (by kernel_rfl), run_slice_l (P := Try.prog) wx 22 (some ⟨b, o, none⟩) len cap (by kernel_rfl) .i64 i (by omega) (by have := HL.out; omega), hsz]
        simp only [Result.andThen, sliced, Int.toNat_natCast, hd, he]
        rw [if_neg (by have := HL.out; omega)]
        simp [Addr.add]
      have hmin : ¬ (d : Int) < 2 := by have := HL.out; omega
      refine region_quiet_inL (by kernel_rfl) ?_ (by kernel_rfl) (by kernel_rfl) ?_
      · rintro ⟨a, w, h⟩
        obtain ⟨⟨v, hv⟩, -⟩ := h
        cases hv
      repeat (quiet_step (fail))
      refine wpQuiet_nil ?_
      intro _ hw'
      obtain ⟨nq, rfl⟩ := hw'
      have hsl2 : ∀ wx, (Instr.sliceAt 22 (.slice (some ⟨b, o, none⟩) len cap) (some (.int .i64 (i : Int))) (some (.int .i64 ((i : Int) + 2))) (some (.int .i64 ((i : Int) + 2)))).run Try.prog wx = .ok (pairV b o k) wx := fun wx => by
        have hsz : ∀ w, (sizeOf (Try.prog.elem 22)).run Try.prog w = .ok 1 w := fun w => by kernel_rfl
        rw [run_sliceAt_slice (P := Try.prog) (w := wx) 22 _ _ _ _ (by kernel_rfl), run_slice_lhm (P := Try.prog) wx 22 (some ⟨b, o, none⟩) len cap (by kernel_rfl) .i64 .i64 .i64 i ((i : Int) + 2) ((i : Int) + 2) (by omega) (by omega) (by omega) (by have := HL.out; omega), hsz]
        simp only [Result.andThen, sliced, Int.toNat_natCast]
        have e1 : ((i : Int) + 2).toNat - i = 2 := by omega
        rw [e1, if_neg (by omega)]
        simp [Addr.add, pairV, hi]
      have hw2 : IntKind.i64.wrap ((i : Int) + 2) = (i : Int) + 2 := by rw [IntKind.wrap_i64]; have := HL.out; omega
      obtain ⟨fn, tmps, assign, body, hy, hR⟩ := hY (uptoK m k) ⟨k, hlt⟩ (wr.drewN nq) (hJ _ _ _ none H.out.1 (grown_drewN wr nq) (by simp)) (by rw [uptoK_length hk]; exact hlt)
      dsimp only at hy
      gi_wp2
      refine ⟨(by intro h; cases h), hR.mono ?_⟩
      rintro e W3 (⟨rfl, hJ3, hk3⟩ | ⟨rfl, hJx3⟩)
      · have c3 := (hk3.2.2 H.out.2.2).cell
        have HQ := Lib.hid (And.intro hJ3 hk3)
        gi_wp2
        go_roundw
        case rel => exact ⟨k + 1, by omega, by go_num, Lib.hid ⟨by rw [uptoK_succ hlt]; exact HQ.out.1, HQ.out.2.2.1 H.out.2.1, HQ.out.2.2.2 H.out.2.2⟩⟩
        case measure => simp [intOf]; omega
      · gi_wp2
        refine bodyPost_ret (results_none rfl _ _ _) rfl ?_
        exact ⟨⟨_, rfl⟩, .inr ⟨_, ⟨k + 1, by omega, (uptoK_succ hlt).symm⟩, hJx3⟩⟩
    · obtain rfl : k = m := by omega
      have hlt' : ¬ (i : Int) < len := by have := HL.out; omega
      gi_wp2
      go_end0
      exact ⟨⟨_, rfl⟩, .inl H.out.1⟩
end Go.Proofs.Ytaopmcpihdcaiaa

/- What bailiwickref01.Less comes to, called with any two slices of digits. (With it, merged: From · Parts · Take · Give · StepNum · Step · Raise · Widen · Divide · DivSmall · RFrom · FromNil · WBy · Less.) -/
import Derived.Test.YtmhgnlngcjckbaaDoorZ3
import Derived.Test.YtmhgnlngcjckbaaDoorZ2
import Derived.IntWalk
import Derived.Test.YtmhgnlngcjckbaaDoorZ1
import Derived.Deep.LoopGhost
import Derived.Lib.Hide
import Derived.Laws.IdiomCopy
import Derived.Laws.CopyRow
import Derived.Deep.DeepCutAuto
import Derived.Laws.Rows
import Derived.Laws.AppendOwnNone
import Derived.Lib.AppendZeros
import Derived.Lib.SliceRun
import Derived.StillTailTactics
import Derived.StillTactics
namespace Go.Proofs.YtmhgnlngcjckbaaDoor
open Go.RowKit

/-- The number of n bytes, the highest first. -/
def fnum (f : Nat → Nat) : Nat → Nat
  | 0 => 0
  | n + 1 => fnum f n * 256 + f n
theorem fnum_lt {f : Nat → Nat} : ∀ n, (∀ j, j < n → f j < 256) → fnum f n < 256 ^ n
  | 0, _ => by simp [fnum]
  | n + 1, h => by
    have h1 := fnum_lt n (fun j hj => h j (by omega))
    have h2 := h n (by omega)
    rw [fnum, Nat.pow_succ]
    omega
theorem fnum_split (f : Nat → Nat) (k : Nat) : ∀ L, fnum f (k + L) = fnum f k * 256 ^ L + fnum (fun j => f (k + j)) L
  | 0 => by simp [fnum]
  | L + 1 => by
    show fnum f (k + L) * 256 + f (k + L) = fnum f k * 256 ^ (L + 1) + (fnum (fun j => f (k + j)) L * 256 + f (k + L))
    rw [fnum_split f k L, Nat.pow_succ, Nat.add_mul, Nat.mul_assoc, Nat.add_assoc]
theorem fnum_last (f : Nat → Nat) (k : Nat) : wv (fnum f (k + 32)) = wv (fnum (fun j => f (k + j)) 32) := by
  apply wv_congr
  rw [fnum_split, show (256 : Nat) ^ 32 = 115792089237316195423570985008687907853269984665640564039457584007913129639936 by rfl, Nat.add_comm, Nat.add_mul_mod_self_right]
theorem or_part (z x s : Nat) (hz : z < 18446744073709551616) (hs : s ≤ 56) (hx : x < 256) : bits .or .u64 (z : Int) (IntKind.u64.wrap ((x : Int) * 2 ^ s)) = ((z ||| x * 2 ^ s : Nat) : Int) := by
  have h1 : 2 ^ s ≤ 2 ^ 56 := Nat.pow_le_pow_right (by omega) hs
  have h2 : x * 2 ^ s ≤ 255 * 2 ^ 56 := Nat.mul_le_mul (by omega) h1
  have e : IntKind.u64.wrap ((x : Int) * 2 ^ s) = ((x * 2 ^ s : Nat) : Int) := by
    rw [IntKind.wrap_u64]
    have e0 : (x : Int) * 2 ^ s = ((x * 2 ^ s : Nat) : Int) := by simp
    rw [e0]; omega
  rw [e, bits_or_u64_nat z _ hz (by omega)]
theorem pN_up (Y x e p s q : Nat) (hx : x < 256) (hY : Y % 2 ^ (e + 8) = 0) (he : e = 64 * p + s) (hs : s ≤ 56) (hq : q < 4) (_hp : p < 4) : pN (Y + x * 2 ^ e) q = if p = q then pN Y p ||| x * 2 ^ s else pN Y q := by
  have hor : Y + x * 2 ^ e = Y ||| x * 2 ^ e := by
    obtain ⟨k, hk⟩ := Nat.dvd_of_mod_eq_zero hY
    rw [hk]
    refine Nat.two_pow_add_eq_or_of_lt ?_ _
    rw [Nat.pow_add, Nat.mul_comm]
    exact Nat.mul_lt_mul_of_pos_left hx (Nat.two_pow_pos e)
  have hxb : ∀ i, 8 ≤ i → x.testBit i = false := fun i hi => Nat.testBit_lt_two_pow (Nat.lt_of_lt_of_le hx (by rw [show 256 = 2 ^ 8 by rfl]; exact Nat.pow_le_pow_right (by omega) hi))
  refine Nat.eq_of_testBit_eq fun j => ?_
  rw [pN_bit _ _ _ hq, hor, Nat.testBit_or, Nat.mul_comm x, Nat.testBit_two_pow_mul]
  by_cases h : p = q
  · subst h
    rw [if_pos rfl, Nat.testBit_or, pN_bit _ _ _ hq, Nat.mul_comm x, Nat.testBit_two_pow_mul]
    by_cases l : j < 64
    · simp only [l, decide_true, Bool.true_and]
      by_cases m : s ≤ j
      · rw [show decide (64 * p + j ≥ e) = true by simp; omega, show 64 * p + j - e = j - s by omega]; simp [m]
      · rw [show decide (64 * p + j ≥ e) = false by simp; omega]; simp [m]
    · simp only [l, decide_false, Bool.false_and, Bool.false_or]
      rw [hxb (j - s) (by omega)]; simp
  · rw [if_neg h, pN_bit _ _ _ hq]
    by_cases l : j < 64
    · by_cases m : e ≤ 64 * q + j
      · rw [hxb (64 * q + j - e) (by omega)]; simp
      · rw [show decide (64 * q + j ≥ e) = false by simp; omega]; simp
    · simp [l]
theorem pw_up (Y x e p s : Nat) (hx : x < 256) (hY : Y % 2 ^ (e + 8) = 0) (he : e = 64 * p + s) (hs : s ≤ 56) (hp : p < 4) : (pw Y).setIfInBounds p (.int .u64 ((pN Y p ||| x * 2 ^ s : Nat) : Int)) = pw (Y + x * 2 ^ e) := by
  apply Array.ext
  · simp [pw]
  · intro q h1 h2
    have hq : q < 4 := by simpa [pw] using h2
    have hs' : q < (pw Y).size := by simpa using h1
    rw [pw_get _ _ hq, Array.getElem_setIfInBounds hs', pN_up Y x e p s q hx hY he hs hq hp]
    by_cases e : p = q
    · rw [if_pos e, if_pos e]
    · rw [if_neg e, if_neg e, pw_get _ _ hq]

theorem slice_tail (g o n cap k L : Nat) (hn : n = k + L) (hc : n ≤ cap) (hk : L = 0 → k = 0) (w : World) : (Instr.slice 25 (.slice (some ⟨g, o, none⟩) n cap) (some (.int .i64 (k : Nat))) none none).run Tryd.prog w = .ok (.slice (some ⟨g, o + k, none⟩) L (cap - k)) w := by
  have hsz : (sizeOf (Tryd.prog.elem 25)).run Tryd.prog w = .ok 1 w := by kernel_rfl
  rw [run_slice_l w 25 (some ⟨g, o, none⟩) n cap (by kernel_rfl) .i64 _ (by omega) (by omega), hsz]
  simp only [Result.andThen, sliced]
  rw [Int.toNat_natCast, show n - k = L by omega, Nat.mul_one]
  by_cases h : cap = k
  · have hk0 := hk (by omega)
    subst hk0
    rw [if_pos h]; rfl
  · rw [if_neg h]
    by_cases hk2 : k = 0
    · subst hk2; rfl
    · simp [Addr.add, hk2]
/-- The worlds of a round. -/
def CF (w : World) (Y : Nat) (wx : World) : Prop := wx.heap[w.heap.size]? = some (.cells #[.int .u64 0, .int .u64 0, .int .u64 0, .int .u64 0] 24 (0, 0)) ∧ wx.heap[w.heap.size + 1]? = some (.cells (pw Y) 24 (0, 0)) ∧ Below w.heap.size w wx
theorem CF.drew {w wx : World} {Y : Nat} (h : CF w Y wx) : CF w Y wx.drew := ⟨h.1, h.2.1, h.2.2.drew⟩
/-- The number after i rounds. -/
def fr (f : Nat → Nat) (L i : Nat) : Nat := fnum f i * 256 ^ (L - i)
theorem fr_mod (f : Nat → Nat) (L i : Nat) (hi : i < L) : fr f L i % 2 ^ (8 * (L - 1 - i) + 8) = 0 := by
  unfold fr
  rw [show 8 * (L - 1 - i) + 8 = 8 * (L - i) by omega, Nat.pow_mul, show (2 : Nat) ^ 8 = 256 by rfl, Nat.mul_mod_left]
theorem fr_next (f : Nat → Nat) (L i : Nat) (hi : i < L) : fr f L (i + 1) = fr f L i + f i * 2 ^ (8 * (L - 1 - i)) := by
  unfold fr
  rw [fnum, show L - (i + 1) = L - 1 - i by omega, show L - i = (L - 1 - i) + 1 by omega, Nat.pow_succ, Nat.pow_mul, show (2 : Nat) ^ 8 = 256 by rfl, Nat.add_mul, Nat.mul_assoc, Nat.mul_comm 256]
theorem fr_full (f : Nat → Nat) (L : Nat) : fr f L L = fnum f L := by unfold fr; rw [Nat.sub_self, Nat.pow_zero, Nat.mul_one]

set_option maxRecDepth 100000 in
set_option maxHeartbeats 2000000 in
theorem from_walk (g o n cap k L : Nat) (f : Nat → Nat) (hf : ∀ j, j < n → f j < 256) (hk : k = n - 32) (hL : n = k + L) (hcap : n ≤ cap) (hn : (n : Int) ≤ 140737488355328) (w : World) (hg : g < w.heap.size) (hc : ∀ j, j < n → w.cell? ⟨g, o + j, none⟩ = some (.int .u8 (f j : Nat))) :
    Calls Tryd.prog 7 #[.slice (some ⟨g, o, none⟩) n cap] w fun e w' => e = .returned (.agg (pw (fnum (fun j => f (k + j)) L))) ∧ Below w.heap.size w w' := by
  have hn0 : (0 : Int) ≤ n := by omega
  have hm : max 0 ((n : Int) - 32) = (k : Int) := by omega
  have hsl := slice_tail g o n cap k L hL hcap (by omega)
  have hL0 : (0 : Int) ≤ L := by omega
  have hL1 : (L : Int) ≤ 32 := by omega
  have HF := Lib.hid hf; clear hf
  have HL := Lib.hid hL; clear hL
  have HC := Lib.hid hc; clear hc
  have HCAP := Lib.hid hcap; clear hcap
  have HK := Lib.hid hk; clear hk
  go_enter Tryd.func7, Tryd.ntmps7
  go_wp2_with fail
  go_loopw [15] (fun iv wr => ∃ i : Nat, i ≤ L ∧ iv = .int .i64 i ∧ Hid (CF w (fr (fun j => f (k + j)) L i) wr)) (fun iv _ => L - (intOf iv).toNat)
  case atStart =>
    refine ⟨0, by omega, rfl, Lib.hid ⟨(heap2 _ _ _).1, ?_, by go_grown⟩⟩
    have e0 : fr (fun j => f (k + j)) L 0 = 0 := by unfold fr; simp [fnum]
    rw [e0]
    exact (heap2 _ _ _).2
  case round =>
    obtain ⟨i, hi, rfl, H⟩ := hrel
    have hi0 : (0 : Int) ≤ i := by omega
    have hi1 : (i : Int) ≤ 32 := by omega
    by_cases hlt : i < L
    · have hlt' : (i : Int) < L := by omega
      obtain ⟨pl, hpl⟩ : ∃ pl : Nat, (L : Int) - 1 - (i : Int) = (pl : Int) := ⟨L - 1 - i, by omega⟩
      obtain ⟨p, hp⟩ : ∃ p : Nat, (pl : Int) / 8 = (p : Int) := ⟨pl / 8, by omega⟩
      obtain ⟨s, hs⟩ : ∃ s : Nat, (pl : Int) % 8 * 8 = (s : Int) := ⟨pl % 8 * 8, by omega⟩
      have hpl0 : (0 : Int) ≤ pl := by omega
      have hpl1 : (pl : Int) ≤ 31 := by omega
      have hp0 : (0 : Int) ≤ p := by omega
      have hp1 : (p : Int) < 4 := by omega
      have hs0 : (0 : Int) ≤ s := by omega
      have hs1 : (s : Int) ≤ 56 := by omega
      have ex : wr.cell? ⟨g, o + k + i, none⟩ = some (.int .u8 (f (k + i) : Nat)) := (H.out.2.2.cell (p := ⟨g, o + k + i, none⟩) hg).trans (by rw [Nat.add_assoc]; exact HC.out (k + i) (by have := HL.out; omega))
      have hx := HF.out (k + i) (by have := HL.out; omega)
      have hx0 : (0 : Int) ≤ (f (k + i) : Nat) := by omega
      have hx1 : ((f (k + i) : Nat) : Int) ≤ 255 := by omega
      have hxw : IntKind.u64.wrap ((f (k + i) : Nat) : Int) = ((f (k + i) : Nat) : Int) := by rw [IntKind.wrap_u64]; omega
      obtain ⟨Y, hY⟩ : ∃ Y, fr (fun j => f (k + j)) L i = Y := ⟨_, rfl⟩
      have hmod := fr_mod (fun j => f (k + j)) L i hlt
      have hnext := fr_next (fun j => f (k + j)) L i hlt
      rw [hY] at H hmod hnext
      rw [show L - 1 - i = pl by omega] at hmod hnext
      have HV := Lib.hid (or_part (pN Y p) (f (k + i)) s (pN_le _ _) (by omega) hx)
      have HSET := Lib.hid (pw_up Y (f (k + i)) (8 * pl) p s hx hmod (by omega) (by omega) (by omega))
      have HNEXT := Lib.hid hnext; clear hnext hmod hY hx
      have ht1 : (pl : Int).tmod 8 * 8 = (s : Int) := by rw [Int.tmod_eq_emod_of_nonneg hpl0]; exact hs
      have ht2 : (pl : Int).tdiv 8 = (p : Int) := by rw [Int.tdiv_eq_ediv_of_nonneg hpl0]; exact hp
      have u1 : IntKind.i64.wrap (p : Int) = (p : Int) := IntWalk.i64_in _ (by omega)
      have u2 : IntKind.i64.wrap (s : Int) = (s : Int) := IntWalk.i64_in _ (by omega)
      go_wp2_with fail
      refine region_quiet_tail 12 (CF w Y) (by kernel_rfl) (by kernel_rfl) H.out.drew ?_
      simp only [List.take_succ_cons, List.take_zero, List.drop_succ_cons, List.drop_zero]
      refine wpQuiet_step (fun K hK => ?_)
      go_simp
      refine ⟨_, fun _ _ => rfl, hK _ ?_⟩
      clear hK K
      refine wpQuiet_step (fun K hK => ?_)
      go_simp
      refine ⟨_, fun _ _ => rfl, hK _ ?_⟩
      clear hK K
      refine wpQuiet_step (fun K hK => ?_)
      go_simp
      refine ⟨_, fun _ _ => rfl, hK _ ?_⟩
      clear hK K
      refine wpQuiet_step (fun K hK => ?_)
      rw [if_pos (by rfl)]
      refine ⟨.int .u64 (pN Y p : Nat), fun wx hC => ?_, hK _ ?_⟩
      · have ca : wx.cell? ⟨w.heap.size + 1, p, none⟩ = some (.int .u64 (pN Y p : Nat)) := (cell_of_row _ _ p _ _ _ hC.2.1).trans (pw_at Y p (by omega))
        go_simp
      clear hK K
      refine wpQuiet_step (fun K hK => ?_)
      go_simp
      refine ⟨_, fun _ _ => rfl, hK _ ?_⟩
      clear hK K
      refine wpQuiet_step (fun K hK => ?_)
      go_simp
      refine ⟨_, fun _ _ => rfl, hK _ ?_⟩
      clear hK K
      refine wpQuiet_step (fun K hK => ?_)
      go_simp
      refine ⟨_, fun _ _ => rfl, hK _ ?_⟩
      clear hK K
      refine wpQuiet_step (fun K hK => ?_)
      go_simp
      refine ⟨_, fun _ _ => rfl, hK _ ?_⟩
      clear hK K
      refine wpQuiet_step (fun K hK => ?_)
      go_simp
      refine ⟨_, fun _ _ => rfl, hK _ ?_⟩
      clear hK K
      refine wpQuiet_step (fun K hK => ?_)
      go_simp
      refine ⟨_, fun _ _ => rfl, hK _ ?_⟩
      clear hK K
      refine wpQuiet_step (fun K hK => ?_)
      go_simp
      refine ⟨_, fun _ _ => rfl, hK _ ?_⟩
      clear hK K
      refine wpQuiet_step (fun K hK => ?_)
      go_simp
      refine ⟨_, fun _ _ => rfl, hK _ ?_⟩
      clear hK K
      refine wpQuiet_nil ?_
      intro wx hC
      have ca : wx.cell? ⟨w.heap.size + 1, p, none⟩ = some (.int .u64 (pN Y p : Nat)) := (cell_of_row _ _ p _ _ _ hC.2.1).trans (pw_at Y p (by omega))
      have cf : wx.frozen? ⟨w.heap.size + 1, p, none⟩ = false := frozen_of_row _ _ p _ _ hC.2.1
      have HX := Lib.hid hC; clear hC
      go_wp2_with fail
      go_roundw
      case rel =>
        refine ⟨i + 1, by omega, by go_num, Lib.hid ⟨(heap_setCell_other wx _ _ _ (by simp)).trans HX.out.1, ?_, HX.out.2.2.setCell (by simp) _⟩⟩
        rw [HV.out, heap_setCell_same wx _ _ _ _ _ HX.out.2.1, HSET.out, HNEXT.out]
      case measure => first | (simp [intOf]; done) | (simp [intOf]; omega)
    · obtain rfl : i = L := by omega
      rw [fr_full] at H
      go_wp2_with (first | (refine wpList_load_row rfl 24 _ rfl (w.heap.size + 1) rfl 24 _ (0, 0) _ H.out.2.1 Tryd.underlying24 rfl infoWord ?_) | (refine wpList_store_row rfl 24 _ _ rfl w.heap.size (pw (fnum (fun j => f (k + j)) i)) rfl rfl 24 #[.int .u64 0, .int .u64 0, .int .u64 0, .int .u64 0] H.out.1 infoWord rfl (pw_one _) ?_))
      (try simp only [Exit.inBlock, Exit.then])
      exact bodyPost_ret (v := .agg (pw (fnum (fun j => f (k + j)) i))) (results_cell_row (p := 2) rfl _ _ w.heap.size 24 _ (0, 0) _ rfl (setRow_heap _ _ _ _ _ _ H.out.1) Tryd.underlying24 rfl infoWord) rfl ⟨rfl, below_setRow H.out.2.2 (Nat.le_refl _) _⟩
end Go.Proofs.YtmhgnlngcjckbaaDoor
namespace Go.Proofs.YtmhgnlngcjckbaaDoor
open Go.RowKit

/-- How many of the first n parts there are without the noughts behind. -/
def np (xs : Nat → Nat) : Nat → Nat
  | 0 => 0
  | n + 1 => if xs n = 0 then np xs n else n + 1

set_option maxRecDepth 100000 in
set_option maxHeartbeats 400000 in
theorem parts_any (b o L cap : Nat) (xs : Nat → Nat) (hL : (L : Int) ≤ 1000000) (w : World)
    (hc : ∀ j, j < L → w.cell? ⟨b, o + j, none⟩ = some (.int .u64 (xs j))) :
    Calls Tryd.prog 31 #[.slice (some ⟨b, o, none⟩) L cap] w fun e w' => e = .returned (.int .i64 (np xs L : Nat)) ∧ w = w' := by
  have HC := Lib.hid hc; clear hc
  go_enter Tryd.func31, Tryd.ntmps31
  go_wp2
  go_loop [3] (fun n => ∃ k : Nat, k ≤ L ∧ n = .int .i64 k ∧ Hid (np xs k = np xs L)) (fun n => (intOf n).toNat)
  case atStart => exact ⟨L, Nat.le_refl _, rfl, Lib.hid rfl⟩
  case round =>
    obtain ⟨k, hk, rfl, hn⟩ := hrel
    have hk' : (k : Int) ≤ 1000000 := by omega
    rcases k with _ | j
    · go_wp2
      go_ret
      exact ⟨by rw [← hn.out]; rfl, rfl⟩
    · have hj : (0 : Int) ≤ j := by omega
      have hj' : (j : Int) ≤ 1000000 := by omega
      have c := HC.out j (by omega)
      by_cases hx : xs j = 0
      · have hr : np xs j = np xs L := by rw [← hn.out]; simp [np, hx]
        have HR := Lib.hid hr
        clear hr
        rw [hx] at c
        clear hn
        go_wp2
        go_round
        case rel => exact ⟨j, by omega, rfl, HR⟩
        case measure => simp [intOf]
      · have hr : j + 1 = np xs L := by rw [← hn.out]; simp [np, hx]
        have HR := Lib.hid hr
        clear hr hn
        have hx' : ((xs j : Int) == 0) = false := by simp [hx]
        go_wp2
        go_ret
        exact ⟨by rw [← HR.out]; simp, rfl⟩
end Go.Proofs.YtmhgnlngcjckbaaDoor
namespace Go.Proofs.YtmhgnlngcjckbaaDoor
open Go.RowKit

/-- The number of the first n parts. -/
def val (f : Nat → Nat) : Nat → Nat
  | 0 => 0
  | n + 1 => val f n + 18446744073709551616 ^ n * f n

theorem val_congr {f g : Nat → Nat} {n : Nat} (h : ∀ j, j < n → f j = g j) : val f n = val g n := by
  induction n with
  | zero => rfl
  | succ n ih => simp only [val]; rw [ih (fun j hj => h j (by omega)), h n (by omega)]

/-- Nothing has turned but cells of block S. -/
structure But (S : Nat) (w w' : World) : Prop where
  os : w'.os = w.os
  tape : w'.tape = w.tape
  output : w'.output = w.output
  size : w'.heap.size = w.heap.size
  block : ∀ k, k ≠ S → w'.heap[k]? = w.heap[k]?
  frozen : ∀ j, w'.frozen? ⟨S, j, none⟩ = w.frozen? ⟨S, j, none⟩

theorem But.refl (S : Nat) (w : World) : But S w w := ⟨rfl, rfl, rfl, rfl, fun _ _ => rfl, fun _ => rfl⟩
theorem But.set {S : Nat} {w w' : World} (h : But S w w') (j : Nat) (u : Value) : But S w (w'.setCell ⟨S, j, none⟩ u) :=
  ⟨h.os, h.tape, h.output, by simp [h.size], fun k hk => by rw [Below.heap_setCell _ _ _ _ hk]; exact h.block k hk, fun i => by rw [World.frozen?_setCell]; exact h.frozen i⟩
theorem But.trans {S : Nat} {w w' w'' : World} (h : But S w w') (h' : But S w' w'') : But S w w'' :=
  ⟨h'.os.trans h.os, h'.tape.trans h.tape, h'.output.trans h.output, h'.size.trans h.size, fun k hk => (h'.block k hk).trans (h.block k hk), fun j => (h'.frozen j).trans (h.frozen j)⟩
theorem But.cell {S : Nat} {w w' : World} (h : But S w w') {p : Addr} (hp : p.block ≠ S) : w'.cell? p = w.cell? p := World.cell?_of_block (w := w) (h.block p.block hp)
theorem But.below {S B : Nat} {w0 w w' : World} (h0 : Below B w0 w) (h : But S w w') (hB : B ≤ S) : Below B w0 w' :=
  h0.trans ⟨h.os, h.tape, h.output, by rw [h.size]; exact Nat.le_refl _, fun k hk => h.block k (by omega)⟩

/-- Cells o .. of block S hold the first k parts of ns; the others what they held. -/
def Holds (S o k : Nat) (ns : Nat → Nat) (w w' : World) : Prop := But S w w' ∧ ∀ j, w'.cell? ⟨S, j, none⟩ = if o ≤ j ∧ j < o + k then some (.int .u64 (ns (j - o) : Nat)) else w.cell? ⟨S, j, none⟩

theorem Holds.start (S o : Nat) (ns : Nat → Nat) (w : World) : Holds S o 0 ns w w := ⟨But.refl S w, fun j => by rw [if_neg (by omega)]⟩
theorem Holds.next {S o k : Nat} {ns : Nat → Nat} {w w' : World} (h : Holds S o k ns w w') (s : Nat) (hs : (w.cell? ⟨S, o + k, none⟩).isSome = true) :
    Holds S o (k + 1) (fun j => if j = k then s else ns j) w (w'.setCell ⟨S, o + k, none⟩ (.int .u64 s)) := by
  refine ⟨h.1.set _ _, fun j => ?_⟩
  by_cases hj : j = o + k
  · subst hj
    have h1 : (w'.cell? ⟨S, o + k, none⟩).isSome = true := by rw [h.2, if_neg (by omega)]; exact hs
    obtain ⟨v, hv⟩ := Option.isSome_iff_exists.1 h1
    rw [if_pos (by omega), World.cell?_setCell_same _ _ _ hv]
    simp
  · rw [World.cell?_setCell_other _ _ _ _ (by intro e; apply hj; injection e with _ e2; exact e2.symm)]
    rw [h.2 j]
    by_cases h1 : o ≤ j ∧ j < o + k
    · rw [if_pos h1, if_pos (by omega)]
      simp only []
      rw [if_neg (by omega)]
    · rw [if_neg h1, if_neg (by omega)]

/-- What word.takeTimes leaves: the rest's cells, and what is owed. -/
def TakePost (S o n part : Nat) (r d : Nat → Nat) (w : World) (e : Ending) (w' : World) : Prop :=
  ∃ (ns : Nat → Nat) (debt : Nat), e = .returned (.int .u64 debt) ∧ debt ≤ 1 ∧ (∀ j, j < n + 1 → ns j < 18446744073709551616) ∧
    val ns (n + 1) + part * val d n = val r (n + 1) + 18446744073709551616 ^ (n + 1) * debt ∧ Holds S o (n + 1) ns w w'

/-- One round's reckoning. -/
theorem take_step {P x rk t s c c' b b' m dk N R V : Nat} (h : N + V = R + P * (c + b)) (h1 : t + 18446744073709551616 * c' = m + c) (h2 : s + t + b = rk + 18446744073709551616 * b') (hm : m = dk * x) :
    N + P * s + (V + P * (dk * x)) = R + P * rk + P * 18446744073709551616 * (c' + b') := by
  subst hm
  have e1 : P * t + P * (18446744073709551616 * c') = P * (dk * x) + P * c := by rw [← Nat.mul_add, ← Nat.mul_add, h1]
  have e2 : P * s + P * t + P * b = P * rk + P * (18446744073709551616 * b') := by rw [← Nat.mul_add, ← Nat.mul_add, ← Nat.mul_add, h2]
  have e3 : P * 18446744073709551616 * (c' + b') = P * (18446744073709551616 * c') + P * (18446744073709551616 * b') := by grind
  have e4 : P * (c + b) = P * c + P * b := Nat.mul_add _ _ _
  omega

set_option maxRecDepth 100000 in
set_option maxHeartbeats 1000000 in
theorem take_any (S o capS D capD n part : Nat) (r d : Nat → Nat) (hn : (n : Int) ≤ 1000) (hr : ∀ j, j < n + 1 → r j < 18446744073709551616) (hd : ∀ j, j < n → d j < 18446744073709551616)
    (hp : part < 18446744073709551616) (hSD : D ≠ S) (w : World)
    (hs : ∀ j, j < n + 1 → w.cell? ⟨S, o + j, none⟩ = some (.int .u64 (r j))) (hf : ∀ j, j < n + 1 → w.frozen? ⟨S, o + j, none⟩ = false)
    (hc : ∀ j, j < n → w.cell? ⟨D, j, none⟩ = some (.int .u64 (d j))) :
    Calls Tryd.prog 52 #[.slice (some ⟨S, o, none⟩) ((n + 1 : Nat)) capS, .slice (some ⟨D, 0, none⟩) n capD, .int .u64 part] w (TakePost S o n part r d w) := by
  have HR := Lib.hid hr; clear hr
  have HD := Lib.hid hd; clear hd
  have HS := Lib.hid hs; clear hs
  have HF := Lib.hid hf; clear hf
  have HC := Lib.hid hc; clear hc
  have HN := Lib.hid hSD; clear hSD
  have HP := Lib.hid hp; clear hp
  go_enter Tryd.func52, Tryd.ntmps52
  go_wp2
  go_loopw [7, 8, 14] (fun c b i wr => ∃ (k cn bn : Nat) (ns : Nat → Nat), k ≤ n ∧ c = .int .u64 cn ∧ b = .int .u64 bn ∧ i = .int .i64 k ∧ Hid (cn < 18446744073709551616 ∧ bn ≤ 1 ∧ (∀ j, j < k → ns j < 18446744073709551616) ∧ val ns k + val d k * part = val r k + 18446744073709551616 ^ k * (cn + bn) ∧ Holds S o k ns w wr)) (fun _ _ i _ => n - (intOf i).toNat)
  case atStart => exact ⟨0, 0, 0, r, Nat.zero_le _, rfl, rfl, rfl, Lib.hid ⟨by omega, by omega, fun j hj => by omega, by simp [val], Holds.start S o r w⟩⟩
  case round =>
    obtain ⟨k, cn, bn, ns, hk, rfl, rfl, rfl, H⟩ := hrel
    have hk0 : (0 : Int) ≤ k := by omega
    have hk1 : (k : Int) ≤ 1000 := by omega
    by_cases hlt : k < n
    · obtain ⟨tn, c', lt, lc, et, hM⟩ := mulAdd_ex (d k) part 0 cn (HD.out k hlt) HP.out (by omega) H.out.1
      obtain ⟨sn, b', lb, ls, es, hSu⟩ := sub64_ex (r k) tn bn (HR.out k (by omega)) lt H.out.2.1
      have cd : wr.cell? ⟨D, k, none⟩ = some (.int .u64 (d k)) := by rw [H.out.2.2.2.2.1.cell (p := ⟨D, k, none⟩) HN.out]; exact HC.out k hlt
      have cs : wr.cell? ⟨S, o + k, none⟩ = some (.int .u64 (r k)) := by rw [H.out.2.2.2.2.2 (o + k), if_neg (by omega)]; exact HS.out k (by omega)
      have cf : wr.frozen? ⟨S, o + k, none⟩ = false := by rw [H.out.2.2.2.2.1.frozen]; exact HF.out k (by omega)
      have ET := Lib.hid et; clear et
      have ES := Lib.hid es; clear es
      have HM := Lib.hid hM; clear hM
      go_wp2_with fail
      refine (HM.out _).mono ?_
      rintro e w' ⟨rfl, rfl⟩
      go_wp2
      go_roundw
      case rel =>
        refine ⟨k + 1, c', b', fun j => if j = k then sn else ns j, by omega, rfl, rfl, by go_num, Lib.hid ⟨lc, lb, fun j hj => ?_, ?_, H.out.2.2.2.2.next sn (by rw [HS.out k (by omega)]; rfl)⟩⟩
        · by_cases h : j = k
          · simp only [h, if_true]; exact ls
          · simp only [h, if_false]; exact H.out.2.2.1 j (by omega)
        · have e1 : val (fun j => if j = k then sn else ns j) k = val ns k := val_congr (fun j hj => by simp only [show ¬ j = k by omega, if_false])
          simp only [val, e1, if_true]
          have hm : d k * part = d k * part := rfl
          have := take_step (P := 18446744073709551616 ^ k) (x := part) (dk := d k) (N := val ns k) (V := val d k * part) H.out.2.2.2.1 (by rw [ET.out]; omega) ES.out hm
          rw [Nat.pow_succ, Nat.add_mul, Nat.mul_assoc _ (d k) part]
          exact this
      case measure => simp [intOf]; omega
    · obtain rfl : k = n := by omega
      obtain ⟨s1, b1, lb1, ls1, es1, hS1⟩ := sub64_ex (r k) cn bn (HR.out k (by omega)) H.out.1 H.out.2.1
      have ES := Lib.hid es1; clear es1
      have cs : wr.cell? ⟨S, o + k, none⟩ = some (.int .u64 (r k)) := by rw [H.out.2.2.2.2.2 (o + k), if_neg (by omega)]; exact HS.out k (by omega)
      have cf : wr.frozen? ⟨S, o + k, none⟩ = false := by rw [H.out.2.2.2.2.1.frozen]; exact HF.out k (by omega)
      go_wp2
      go_ret
      refine ⟨fun j => if j = k then s1 else ns j, b1, rfl, lb1, fun j hj => ?_, ?_, H.out.2.2.2.2.next s1 (by rw [HS.out k (by omega)]; rfl)⟩
      · by_cases h : j = k
        · simp only [h, if_true]; exact ls1
        · simp only [h, if_false]; exact H.out.2.2.1 j (by omega)
      · have e1 : val (fun j => if j = k then s1 else ns j) k = val ns k := val_congr (fun j hj => by simp only [show ¬ j = k by omega, if_false])
        simp only [val, e1, if_true]
        have h0 := H.out.2.2.2.1
        have h1 := ES.out
        rw [Nat.mul_comm part, Nat.pow_succ, Nat.mul_assoc]
        have e2 : 18446744073709551616 ^ k * s1 + 18446744073709551616 ^ k * cn + 18446744073709551616 ^ k * bn = 18446744073709551616 ^ k * r k + 18446744073709551616 ^ k * (18446744073709551616 * b1) := by rw [← Nat.mul_add, ← Nat.mul_add, ← Nat.mul_add, h1]
        rw [Nat.mul_add] at h0
        omega
end Go.Proofs.YtmhgnlngcjckbaaDoor
namespace Go.Proofs.YtmhgnlngcjckbaaDoor
open Go.RowKit

/-- What word.giveBack leaves: the rest's cells, and what goes beyond. -/
def GivePost (S o n : Nat) (r d : Nat → Nat) (w : World) (e : Ending) (w' : World) : Prop :=
  ∃ (ns : Nat → Nat) (over : Nat), e = .returned (.int .u64 over) ∧ over ≤ 1 ∧ (∀ j, j < n + 1 → ns j < 18446744073709551616) ∧
    val ns (n + 1) + 18446744073709551616 ^ (n + 1) * over = val r (n + 1) + val d n ∧ Holds S o (n + 1) ns w w'

/-- One round's reckoning. -/
theorem give_step {P rk s c c' dk N R V : Nat} (h : N + P * c = R + V) (h1 : s + 18446744073709551616 * c' = rk + dk + c) :
    N + P * s + P * 18446744073709551616 * c' = R + P * rk + (V + P * dk) := by
  have e1 : P * s + P * (18446744073709551616 * c') = P * rk + P * dk + P * c := by rw [← Nat.mul_add, ← Nat.mul_add, ← Nat.mul_add, h1]
  rw [Nat.mul_assoc]
  omega

set_option maxRecDepth 100000 in
set_option maxHeartbeats 1000000 in
theorem give_any (S o capS D capD n : Nat) (r d : Nat → Nat) (hn : (n : Int) ≤ 1000) (hr : ∀ j, j < n + 1 → r j < 18446744073709551616) (hd : ∀ j, j < n → d j < 18446744073709551616)
    (hSD : D ≠ S) (w : World)
    (hs : ∀ j, j < n + 1 → w.cell? ⟨S, o + j, none⟩ = some (.int .u64 (r j))) (hf : ∀ j, j < n + 1 → w.frozen? ⟨S, o + j, none⟩ = false)
    (hc : ∀ j, j < n → w.cell? ⟨D, j, none⟩ = some (.int .u64 (d j))) :
    Calls Tryd.prog 53 #[.slice (some ⟨S, o, none⟩) ((n + 1 : Nat)) capS, .slice (some ⟨D, 0, none⟩) n capD] w (GivePost S o n r d w) := by
  have HR := Lib.hid hr; clear hr
  have HD := Lib.hid hd; clear hd
  have HS := Lib.hid hs; clear hs
  have HF := Lib.hid hf; clear hf
  have HC := Lib.hid hc; clear hc
  have HN := Lib.hid hSD; clear hSD
  go_enter Tryd.func53, Tryd.ntmps53
  go_wp2
  go_loopw [5, 10] (fun c i wr => ∃ (k cn : Nat) (ns : Nat → Nat), k ≤ n ∧ c = .int .u64 cn ∧ i = .int .i64 k ∧ Hid (cn ≤ 1 ∧ (∀ j, j < k → ns j < 18446744073709551616) ∧ val ns k + 18446744073709551616 ^ k * cn = val r k + val d k ∧ Holds S o k ns w wr)) (fun _ i _ => n - (intOf i).toNat)
  case atStart => exact ⟨0, 0, r, Nat.zero_le _, rfl, rfl, Lib.hid ⟨by omega, fun j hj => by omega, by simp [val], Holds.start S o r w⟩⟩
  case round =>
    obtain ⟨k, cn, ns, hk, rfl, rfl, H⟩ := hrel
    have hk0 : (0 : Int) ≤ k := by omega
    have hk1 : (k : Int) ≤ 1000 := by omega
    by_cases hlt : k < n
    · obtain ⟨sn, c', lc, ls, es, hSu⟩ := add64_ex (r k) (d k) cn (HR.out k (by omega)) (HD.out k hlt) H.out.1
      have cd : wr.cell? ⟨D, k, none⟩ = some (.int .u64 (d k)) := by rw [H.out.2.2.2.1.cell (p := ⟨D, k, none⟩) HN.out]; exact HC.out k hlt
      have cs : wr.cell? ⟨S, o + k, none⟩ = some (.int .u64 (r k)) := by rw [H.out.2.2.2.2 (o + k), if_neg (by omega)]; exact HS.out k (by omega)
      have cf : wr.frozen? ⟨S, o + k, none⟩ = false := by rw [H.out.2.2.2.1.frozen]; exact HF.out k (by omega)
      have ES := Lib.hid es; clear es
      go_wp2
      go_roundw
      case rel =>
        refine ⟨k + 1, c', fun j => if j = k then sn else ns j, by omega, rfl, by go_num, Lib.hid ⟨lc, fun j hj => ?_, ?_, H.out.2.2.2.next sn (by rw [HS.out k (by omega)]; rfl)⟩⟩
        · by_cases h : j = k
          · simp only [h, if_true]; exact ls
          · simp only [h, if_false]; exact H.out.2.1 j (by omega)
        · have e1 : val (fun j => if j = k then sn else ns j) k = val ns k := val_congr (fun j hj => by simp only [show ¬ j = k by omega, if_false])
          simp only [val, e1, if_true]
          rw [Nat.pow_succ]
          exact give_step H.out.2.2.1 ES.out
      case measure => simp [intOf]; omega
    · obtain rfl : k = n := by omega
      obtain ⟨s1, b1, lb1, ls1, es1, hS1⟩ := add64_ex (r k) 0 cn (HR.out k (by omega)) (by omega) H.out.1
      have hS2 : ∀ w, (callFunc 66 #[.int .u64 (r k), .int .u64 0, .int .u64 cn]).run Tryd.prog w = .ok (.value (.tuple #[.int .u64 s1, .int .u64 b1])) w := hS1
      clear hS1
      have ES := Lib.hid es1; clear es1
      have cs : wr.cell? ⟨S, o + k, none⟩ = some (.int .u64 (r k)) := by rw [H.out.2.2.2.2 (o + k), if_neg (by omega)]; exact HS.out k (by omega)
      have cf : wr.frozen? ⟨S, o + k, none⟩ = false := by rw [H.out.2.2.2.1.frozen]; exact HF.out k (by omega)
      go_wp2
      go_ret
      refine ⟨fun j => if j = k then s1 else ns j, b1, rfl, lb1, fun j hj => ?_, ?_, H.out.2.2.2.next s1 (by rw [HS.out k (by omega)]; rfl)⟩
      · by_cases h : j = k
        · simp only [h, if_true]; exact ls1
        · simp only [h, if_false]; exact H.out.2.1 j (by omega)
      · have e1 : val (fun j => if j = k then s1 else ns j) k = val ns k := val_congr (fun j hj => by simp only [show ¬ j = k by omega, if_false])
        simp only [val, e1, if_true]
        have h0 := give_step (P := 18446744073709551616 ^ k) (dk := 0) H.out.2.2.1 ES.out
        rw [Nat.pow_succ]
        omega
end Go.Proofs.YtmhgnlngcjckbaaDoor
namespace Go.Proofs.YtmhgnlngcjckbaaDoor
open Go.RowKit

theorem val_lt {f : Nat → Nat} {n : Nat} (h : ∀ j, j < n → f j < 18446744073709551616) : val f n < 18446744073709551616 ^ n := by
  induction n with
  | zero => simp [val]
  | succ n ih =>
    have h1 := ih (fun j hj => h j (by omega))
    have h2 := h n (by omega)
    have h3 : 18446744073709551616 ^ n * f n ≤ 18446744073709551616 ^ n * 18446744073709551615 := Nat.mul_le_mul_left _ (by omega)
    rw [val, Nat.pow_succ]
    omega

theorem val_ge (f : Nat → Nat) (n : Nat) : 18446744073709551616 ^ n * f n ≤ val f (n + 1) := by rw [val]; omega

/-- The guess by the two highest parts of the rest and the highest of the divisor is at least the quotient. -/
theorem guess_least {r d : Nat → Nat} {k : Nat} (hr : ∀ j, j < k + 2 → r j < 18446744073709551616) (hd : 0 < d k) (hlt : val r (k + 2) < 18446744073709551616 * val d (k + 1)) (g : Nat)
    (hg : g = if d k ≤ r (k + 1) then 18446744073709551615 else (r (k + 1) * 18446744073709551616 + r k) / d k) : val r (k + 2) / val d (k + 1) ≤ g := by
  have hP : 0 < 18446744073709551616 ^ k := Nat.pow_pos (by omega)
  have hD := val_ge d k
  have hD0 : 0 < val d (k + 1) := Nat.lt_of_lt_of_le (Nat.mul_pos hP hd) hD
  rw [hg]
  split
  · have : val r (k + 2) / val d (k + 1) < 18446744073709551616 := by rw [Nat.div_lt_iff_lt_mul hD0]; exact hlt
    omega
  · rw [Nat.le_div_iff_mul_le hd]
    have hq := Nat.div_mul_le_self (val r (k + 2)) (val d (k + 1))
    generalize val r (k + 2) / val d (k + 1) = q at *
    have hv := val_lt (fun j hj => hr j (by omega) : ∀ j, j < k → r j < 18446744073709551616)
    have h1 : q * (18446744073709551616 ^ k * d k) ≤ q * val d (k + 1) := Nat.mul_le_mul_left _ hD
    have h2 : val r (k + 2) = val r k + 18446744073709551616 ^ k * (r (k + 1) * 18446744073709551616 + r k) := by
      simp only [val, Nat.pow_succ]
      grind
    have h3 : 18446744073709551616 ^ k * (q * d k) < 18446744073709551616 ^ k * (r (k + 1) * 18446744073709551616 + r k + 1) := by
      have : 18446744073709551616 ^ k * (q * d k) = q * (18446744073709551616 ^ k * d k) := by grind
      rw [this, Nat.mul_add _ (r (k + 1) * 18446744073709551616 + r k) 1, Nat.mul_one]
      omega
    have h4 := Nat.lt_of_mul_lt_mul_left h3
    omega

/-- Where nothing is owed, a part that is not too small is the quotient. -/
theorem part_is {R D N part : Nat} (hD : 0 < D) (h : N + part * D = R) (hl : R / D ≤ part) : part = R / D ∧ N = R % D := by
  have h1 : part ≤ R / D := by rw [Nat.le_div_iff_mul_le hD]; omega
  have e : part = R / D := by omega
  refine ⟨e, ?_⟩
  have := Nat.div_add_mod R D
  rw [← e, Nat.mul_comm] at this
  omega

/-- Where something is owed, the part is too great. -/
theorem part_over {R D N P part : Nat} (hD : 0 < D) (h : N + part * D = R + P) (hN : N < P) : R / D < part := by
  rw [Nat.div_lt_iff_lt_mul hD]
  omega

theorem give_part {R D N N' P part over debt : Nat} (h : N + part * D = R + P * debt) (h1 : N' + P * over = N + D) (hp : 0 < part) (ho : over ≤ debt) : N' + (part - 1) * D = R + P * (debt - over) := by
  obtain ⟨p, rfl⟩ : ∃ p, part = p + 1 := ⟨part - 1, by omega⟩
  obtain ⟨e, rfl⟩ : ∃ e, debt = over + e := ⟨debt - over, by omega⟩
  rw [Nat.add_mul, Nat.one_mul] at h
  rw [Nat.mul_add] at h
  simp only [Nat.add_sub_cancel, Nat.add_sub_cancel_left]
  omega
end Go.Proofs.YtmhgnlngcjckbaaDoor
namespace Go.Proofs.YtmhgnlngcjckbaaDoor
open Go.RowKit

theorem Holds.then_ {S o k : Nat} {n1 n2 : Nat → Nat} {w wr w' : World} (h : Holds S o k n1 w wr) (h' : Holds S o k n2 wr w') : Holds S o k n2 w w' := by
  refine ⟨h.1.trans h'.1, fun j => ?_⟩
  rw [h'.2 j]
  by_cases hj : o ≤ j ∧ j < o + k
  · rw [if_pos hj, if_pos hj]
  · rw [if_neg hj, if_neg hj, h.2 j, if_neg hj]
theorem But.drawn {S : Nat} {w w' : World} (h : But S w w') (n : Nat) : But S w (w'.drewN n) := ⟨h.os, h.tape, h.output, h.size, h.block, h.frozen⟩
theorem But.drawn' {S : Nat} {w w' : World} (n : Nat) (h : But S (w.drewN n) w') : But S w w' := ⟨h.os, h.tape, h.output, h.size, h.block, h.frozen⟩
theorem Holds.drawn' {S o k : Nat} {ns : Nat → Nat} {w w' : World} (n : Nat) (h : Holds S o k ns (w.drewN n) w') : Holds S o k ns w w' := ⟨h.1.drawn' n, h.2⟩

/-- What word.divideStep leaves. -/
def StepPost (S o n : Nat) (r d : Nat → Nat) (w : World) (e : Ending) (w' : World) : Prop :=
  ∃ ns : Nat → Nat, e = .returned (.int .u64 ((val r (n + 1) / val d n : Nat) : Int)) ∧ (∀ j, j < n + 1 → ns j < 18446744073709551616) ∧ val ns (n + 1) = val r (n + 1) % val d n ∧ Holds S o (n + 1) ns w w'

theorem exit_is {R D N P part debt : Nat} (hD : 0 < D) (h : N + part * D = R + P * debt) (hz : debt = 0) (hl : R / D ≤ part) : part = R / D ∧ N = R % D := by
  subst hz
  exact part_is hD (by rw [Nat.mul_zero, Nat.add_zero] at h; exact h) hl
theorem owed_is {R D N P part debt : Nat} (hD : 0 < D) (h : N + part * D = R + P * debt) (hz : debt = 1) (hN : N < P) : R / D < part := by
  subst hz
  exact part_over hD (by rw [Nat.mul_one] at h; exact h) hN

theorem steppost_mk {S o k q : Nat} {r d cur : Nat → Nat} {w w' : World} (hq : q = val r (k + 2) / val d (k + 1)) (h1 : ∀ j, j < k + 2 → cur j < 18446744073709551616) (h2 : val cur (k + 2) = val r (k + 2) % val d (k + 1)) (h3 : Holds S o (k + 2) cur w w') :
    StepPost S o (k + 1) r d w (.returned (.int .u64 (q : Int))) w' := ⟨cur, by rw [hq], h1, h2, h3⟩

set_option maxRecDepth 100000 in
set_option maxHeartbeats 1000000 in
theorem step_any (S o capS D capD k : Nat) (r d : Nat → Nat) (hn : (k : Int) ≤ 100) (hr : ∀ j, j < k + 2 → r j < 18446744073709551616) (hd : ∀ j, j < k + 1 → d j < 18446744073709551616)
    (hdk : 9223372036854775808 ≤ d k) (hlt : val r (k + 2) < 18446744073709551616 * val d (k + 1)) (hSD : D ≠ S) (w : World)
    (hs : ∀ j, j < k + 2 → w.cell? ⟨S, o + j, none⟩ = some (.int .u64 (r j))) (hf : ∀ j, j < k + 2 → w.frozen? ⟨S, o + j, none⟩ = false)
    (hc : ∀ j, j < k + 1 → w.cell? ⟨D, j, none⟩ = some (.int .u64 (d j))) :
    Calls Tryd.prog 35 #[.slice (some ⟨S, o, none⟩) ((k + 1 + 1 : Nat)) capS, .slice (some ⟨D, 0, none⟩) ((k + 1 : Nat)) capD] w (StepPost S o (k + 1) r d w) := by
  have c1 : w.cell? ⟨S, o + (k + 1), none⟩ = some (.int .u64 (r (k + 1))) := hs (k + 1) (by omega)
  have c2 : w.cell? ⟨S, o + k, none⟩ = some (.int .u64 (r k)) := hs k (by omega)
  have c3 : w.cell? ⟨D, k, none⟩ = some (.int .u64 (d k)) := hc k (by omega)
  have b0 : (0 : Int) ≤ k := by omega
  have hg := fun w => guess_any (r (k + 1)) (r k) (d k) (hr _ (by omega)) (hr _ (by omega)) (hd _ (by omega)) hdk w
  obtain ⟨g, eg⟩ : ∃ g, g = guessN (r (k + 1)) (r k) (d k) := ⟨_, rfl⟩
  rw [← eg] at hg
  have hgl : g < 18446744073709551616 := by
    rw [eg]; unfold guessN
    split
    · omega
    · rename_i hh
      rw [Nat.div_lt_iff_lt_mul (by omega)]
      have := hr k (by omega)
      generalize d k = y at *
      generalize r (k + 1) = h at *
      have h2 : (h + 1) * 18446744073709551616 ≤ y * 18446744073709551616 := Nat.mul_le_mul_right _ (by omega)
      omega
  have hge := guess_least (k := k) hr (by omega) hlt g (by rw [eg]; rfl)
  have hD0 : 0 < val d (k + 1) := by
    have := Nat.mul_pos (Nat.pow_pos (n := k) (show 0 < 18446744073709551616 by omega)) (show 0 < d k by omega)
    have := val_ge d k
    omega
  have HG := Lib.hid hg; clear hg
  have HR := Lib.hid hr; clear hr
  have HD := Lib.hid hd; clear hd
  have HS := Lib.hid hs; clear hs
  have HF := Lib.hid hf; clear hf
  have HC := Lib.hid hc; clear hc
  have HN := Lib.hid hSD; clear hSD
  have HGL := Lib.hid hgl; clear hgl
  have HGE := Lib.hid hge; clear hge
  have HD0 := Lib.hid hD0; clear hD0
  have HLT := Lib.hid hlt; clear hlt
  clear eg hdk
  go_enter Tryd.func35, Tryd.ntmps35
  go_wp2_with fail
  go_quiet ((go_at_call 51; exact Calls.quiet_of (HG.out _)))
  go_wp2_with fail
  refine (take_any S o capS D capD (k + 1) g r d (by omega) HR.out HD.out HGL.out HN.out (w.drewN nq) (fun j hj => HS.out j hj) (fun j hj => HF.out j hj) (fun j hj => HC.out j hj)).mono ?_
  rintro e w1 ⟨n1, debt, rfl, hd1, hb1, he1, ho1⟩
  have H1 := Lib.hid hb1; clear hb1
  have E1 := Lib.hid he1; clear he1
  have O1 := Lib.hid (ho1.drawn' _); clear ho1
  go_wp2_with fail
  go_loopw [6, 7] (fun p q wr => ∃ (part debt : Nat) (cur : Nat → Nat), p = .int .u64 part ∧ q = .int .u64 debt ∧ Hid (debt ≤ 1 ∧ part < 18446744073709551616 ∧ val r (k + 2) / val d (k + 1) ≤ part ∧ (∀ j, j < k + 2 → cur j < 18446744073709551616) ∧ val cur (k + 2) + part * val d (k + 1) = val r (k + 2) + 18446744073709551616 ^ (k + 2) * debt ∧ Holds S o (k + 2) cur w wr)) (fun p _ _ => (intOf p).toNat)
  case atStart => exact ⟨g, debt, n1, rfl, rfl, Lib.hid ⟨hd1, HGL.out, HGE.out, H1.out, E1.out, O1.out⟩⟩
  case round =>
    obtain ⟨part, debt, cur, rfl, rfl, H⟩ := hrel
    have d0 : (0 : Int) ≤ debt := by omega
    have d1 : (debt : Int) ≤ 1 := by have := H.out.1; omega
    have p0 : (0 : Int) ≤ part := by omega
    have p1 : (part : Int) ≤ 18446744073709551615 := by have := H.out.2.1; omega
    by_cases hz : debt = 0
    · as_aux_lemma =>
      have t0 : ((debt : Int) != 0) = false := by simp [hz]
      have hE := exit_is HD0.out H.out.2.2.2.2.1 hz H.out.2.2.1
      have HE := Lib.hid hE; clear hE hz
      go_wp2
      go_ret
      exact steppost_mk HE.out.1 H.out.2.2.2.1 HE.out.2 H.out.2.2.2.2.2
    · as_aux_lemma =>
      have t0 : ((debt : Int) != 0) = true := by simp [hz]
      have d2 : (1 : Int) ≤ debt := by omega
      have ho := owed_is HD0.out H.out.2.2.2.2.1 (show debt = 1 by omega) (val_lt H.out.2.2.2.1)
      have p3 : 0 < part := Nat.lt_of_le_of_lt (Nat.zero_le _) ho
      have p2 : (1 : Int) ≤ part := by omega
      clear p3
      have HO := Lib.hid ho; clear ho hz
      go_wp2_with fail
      refine (give_any S o capS D capD (k + 1) cur d (by omega) H.out.2.2.2.1 HD.out HN.out _ ?_ ?_ ?_).mono ?_
      · intro j hj
        rw [H.out.2.2.2.2.2.2 (o + j), if_pos (by omega), show o + j - o = j by omega]
      · intro j hj
        rw [H.out.2.2.2.2.2.1.frozen]
        exact HF.out j hj
      · intro j hj
        rw [H.out.2.2.2.2.2.1.cell (p := ⟨D, j, none⟩) HN.out]
        exact HC.out j hj
      · rintro e w2 ⟨n2, over, rfl, hd2, hb2, he2, ho2⟩
        have o0 : (0 : Int) ≤ over := by omega
        have o1 : (over : Int) ≤ 1 := by omega
        have o2 : (over : Int) ≤ debt := by omega
        have H2 := Lib.hid hb2; clear hb2
        have E2 := Lib.hid he2; clear he2
        have O2 := Lib.hid ho2; clear ho2
        go_wp2
        go_roundw
        case rel =>
          refine ⟨part - 1, debt - over, n2, congrArg (Value.int .u64) (by omega), congrArg (Value.int .u64) (by omega), Lib.hid ⟨by omega, by omega, by have := HO.out; omega, H2.out, ?_, H.out.2.2.2.2.2.then_ O2.out⟩⟩
          exact give_part H.out.2.2.2.2.1 E2.out (by omega) (by omega)
        case measure => simp [intOf]; omega
end Go.Proofs.YtmhgnlngcjckbaaDoor
namespace Go.Proofs.YtmhgnlngcjckbaaDoor
open Go.RowKit

theorem index8 (v0 v1 v2 v3 v4 v5 v6 v7 : Value) (w : World) :
    (Instr.index 43 (.agg #[v0, v1, v2, v3, v4, v5, v6, v7]) (.int .i64 0)).run Tryd.prog w = .ok v0 w ∧
    (Instr.index 43 (.agg #[v0, v1, v2, v3, v4, v5, v6, v7]) (.int .i64 1)).run Tryd.prog w = .ok v1 w ∧
    (Instr.index 43 (.agg #[v0, v1, v2, v3, v4, v5, v6, v7]) (.int .i64 2)).run Tryd.prog w = .ok v2 w ∧
    (Instr.index 43 (.agg #[v0, v1, v2, v3, v4, v5, v6, v7]) (.int .i64 3)).run Tryd.prog w = .ok v3 w ∧
    (Instr.index 43 (.agg #[v0, v1, v2, v3, v4, v5, v6, v7]) (.int .i64 4)).run Tryd.prog w = .ok v4 w ∧
    (Instr.index 43 (.agg #[v0, v1, v2, v3, v4, v5, v6, v7]) (.int .i64 5)).run Tryd.prog w = .ok v5 w ∧
    (Instr.index 43 (.agg #[v0, v1, v2, v3, v4, v5, v6, v7]) (.int .i64 6)).run Tryd.prog w = .ok v6 w ∧
    (Instr.index 43 (.agg #[v0, v1, v2, v3, v4, v5, v6, v7]) (.int .i64 7)).run Tryd.prog w = .ok v7 w :=
  ⟨by kernel_rfl, by kernel_rfl, by kernel_rfl, by kernel_rfl, by kernel_rfl, by kernel_rfl, by kernel_rfl, by kernel_rfl⟩

set_option maxRecDepth 100000 in
set_option maxHeartbeats 2000000 in
theorem raise_walk (x0 x1 x2 x3 x4 x5 x6 x7 s t : Nat) (h0 : (0 : Int) ≤ s) (h64 : (s : Int) < 64) (ht : 64 - (s : Int) = (t : Int)) (w : World) :
    Calls Tryd.prog 34 #[.agg #[.int .u64 x0, .int .u64 x1, .int .u64 x2, .int .u64 x3, .int .u64 x4, .int .u64 x5, .int .u64 x6, .int .u64 x7], .int .i64 s] w fun e w' =>
      e = .returned (.agg #[.int .u64 (bits .or .u64 (0) (IntKind.u64.wrap ((x0 : Int) * 2 ^ s))), .int .u64 (bits .or .u64 ((x0 : Int) / 2 ^ t) (IntKind.u64.wrap ((x1 : Int) * 2 ^ s))), .int .u64 (bits .or .u64 ((x1 : Int) / 2 ^ t) (IntKind.u64.wrap ((x2 : Int) * 2 ^ s))), .int .u64 (bits .or .u64 ((x2 : Int) / 2 ^ t) (IntKind.u64.wrap ((x3 : Int) * 2 ^ s))), .int .u64 (bits .or .u64 ((x3 : Int) / 2 ^ t) (IntKind.u64.wrap ((x4 : Int) * 2 ^ s))), .int .u64 (bits .or .u64 ((x4 : Int) / 2 ^ t) (IntKind.u64.wrap ((x5 : Int) * 2 ^ s))), .int .u64 (bits .or .u64 ((x5 : Int) / 2 ^ t) (IntKind.u64.wrap ((x6 : Int) * 2 ^ s))), .int .u64 (bits .or .u64 ((x6 : Int) / 2 ^ t) (IntKind.u64.wrap ((x7 : Int) * 2 ^ s))), .int .u64 ((x7 : Int) / 2 ^ t)]) ∧ Below w.heap.size w w' := by
  have i0 : ∀ v0 v1 v2 v3 v4 v5 v6 v7 w, _ := fun v0 v1 v2 v3 v4 v5 v6 v7 w => (index8 v0 v1 v2 v3 v4 v5 v6 v7 w).1
  have i1 : ∀ v0 v1 v2 v3 v4 v5 v6 v7 w, _ := fun v0 v1 v2 v3 v4 v5 v6 v7 w => (index8 v0 v1 v2 v3 v4 v5 v6 v7 w).2.1
  have i2 : ∀ v0 v1 v2 v3 v4 v5 v6 v7 w, _ := fun v0 v1 v2 v3 v4 v5 v6 v7 w => (index8 v0 v1 v2 v3 v4 v5 v6 v7 w).2.2.1
  have i3 : ∀ v0 v1 v2 v3 v4 v5 v6 v7 w, _ := fun v0 v1 v2 v3 v4 v5 v6 v7 w => (index8 v0 v1 v2 v3 v4 v5 v6 v7 w).2.2.2.1
  have i4 : ∀ v0 v1 v2 v3 v4 v5 v6 v7 w, _ := fun v0 v1 v2 v3 v4 v5 v6 v7 w => (index8 v0 v1 v2 v3 v4 v5 v6 v7 w).2.2.2.2.1
  have i5 : ∀ v0 v1 v2 v3 v4 v5 v6 v7 w, _ := fun v0 v1 v2 v3 v4 v5 v6 v7 w => (index8 v0 v1 v2 v3 v4 v5 v6 v7 w).2.2.2.2.2.1
  have i6 : ∀ v0 v1 v2 v3 v4 v5 v6 v7 w, _ := fun v0 v1 v2 v3 v4 v5 v6 v7 w => (index8 v0 v1 v2 v3 v4 v5 v6 v7 w).2.2.2.2.2.2.1
  have i7 : ∀ v0 v1 v2 v3 v4 v5 v6 v7 w, _ := fun v0 v1 v2 v3 v4 v5 v6 v7 w => (index8 v0 v1 v2 v3 v4 v5 v6 v7 w).2.2.2.2.2.2.2
  go_enter Tryd.func34, Tryd.ntmps34
  go_wp2
  refine wp_loop_rounds 9 ?_
  iterate 8 (rw [rounds_succ]; go_wp2; go_region; go_wp2)
  rw [rounds_succ]; go_wp2
  go_returns
  refine ⟨?_, by go_grown⟩
  rfl
end Go.Proofs.YtmhgnlngcjckbaaDoor
namespace Go.Proofs.YtmhgnlngcjckbaaDoor
open Go.RowKit

/-- Four parts copied to the head of eight. -/
theorem copy4 (W : World) (b c : Nat) (a0 a1 a2 a3 : Nat)
    (s0 : W.cell? ⟨c, 0, none⟩ = some (.int .u64 a0)) (s1 : W.cell? ⟨c, 1, none⟩ = some (.int .u64 a1)) (s2 : W.cell? ⟨c, 2, none⟩ = some (.int .u64 a2)) (s3 : W.cell? ⟨c, 3, none⟩ = some (.int .u64 a3))
    (d0 : (W.cell? ⟨b, 0, none⟩).isSome = true) (d1 : (W.cell? ⟨b, 1, none⟩).isSome = true) (d2 : (W.cell? ⟨b, 2, none⟩).isSome = true) (d3 : (W.cell? ⟨b, 3, none⟩).isSome = true)
    (f0 : W.frozen? ⟨b, 0, none⟩ = false) (f1 : W.frozen? ⟨b, 1, none⟩ = false) (f2 : W.frozen? ⟨b, 2, none⟩ = false) (f3 : W.frozen? ⟨b, 3, none⟩ = false) :
    (Builtin.copy_ #[38, 38] 3 #[.slice (some ⟨b, 0, none⟩) 8 8, .slice (some ⟨c, 0, none⟩) 4 4]).run Tryd.prog W =
      .ok (.int .i64 4) ((((W.setCell ⟨b, 0, none⟩ (.int .u64 a0)).setCell ⟨b, 1, none⟩ (.int .u64 a1)).setCell ⟨b, 2, none⟩ (.int .u64 a2)).setCell ⟨b, 3, none⟩ (.int .u64 a3)) := by
  have h := run_copy_cells (P := Tryd.prog) W 38 38 3 22 b 0 8 8 ⟨c, 0, none⟩ 4 4 [.int .u64 a0, .int .u64 a1, .int .u64 a2, .int .u64 a3] Tryd.underlying38 (by kernel_rfl) rfl
    (fun j v hj => by
      rcases j with _ | _ | _ | _ | j
      · cases hj; exact s0
      · cases hj; exact s1
      · cases hj; exact s2
      · cases hj; exact s3
      · simp at hj)
    (fun j hj => by
      rcases j with _ | _ | _ | _ | j
      · exact d0
      · exact d1
      · exact d2
      · exact d3
      · simp at hj; omega)
    (fun j hj => by
      rcases j with _ | _ | _ | _ | j
      · exact f0
      · exact f1
      · exact f2
      · exact f3
      · simp at hj; omega)
    (fun v hv => by simp at hv; rcases hv with rfl | rfl | rfl | rfl <;> rfl)
  exact h

set_option maxRecDepth 100000 in
set_option maxHeartbeats 1000000 in
theorem widen_nil (a0 a1 a2 a3 : Nat) (w : World) :
    Calls Tryd.prog 19 #[.agg #[.int .u64 a0, .int .u64 a1, .int .u64 a2, .int .u64 a3], .slice none 0 0] w fun e w' =>
      e = .returned (.agg #[.int .u64 a0, .int .u64 a1, .int .u64 a2, .int .u64 a3, .int .u64 0, .int .u64 0, .int .u64 0, .int .u64 0]) ∧ Below w.heap.size w w' := by
  have hcp := copy4 ((((w.alloc (.cells #[.int .u64 a0, .int .u64 a1, .int .u64 a2, .int .u64 a3] 24)).alloc (.cells #[.int .u64 0, .int .u64 0, .int .u64 0, .int .u64 0, .int .u64 0, .int .u64 0, .int .u64 0, .int .u64 0] 43)).alloc (.cells #[.int .u64 0, .int .u64 0, .int .u64 0, .int .u64 0, .int .u64 0, .int .u64 0, .int .u64 0, .int .u64 0] 43)).drew) (w.heap.size + 1 + 1) w.heap.size a0 a1 a2 a3
    (by go_cell) (by go_cell) (by go_cell) (by go_cell) (by go_simp) (by go_simp) (by go_simp) (by go_simp) (by go_cell) (by go_cell) (by go_cell) (by go_cell)
  have hcn := fun W : World => run_copy_nil (P := Tryd.prog) W 38 38 3 22 ⟨w.heap.size + 1 + 1, 4, none⟩ 4 4 Tryd.underlying38 (by kernel_rfl)
  go_enter Tryd.func19, Tryd.ntmps19
  go_wp2
  go_region
  go_wp2
  go_returns
  refine ⟨?_, by go_grown⟩
  rfl
end Go.Proofs.YtmhgnlngcjckbaaDoor
namespace Go.Proofs.YtmhgnlngcjckbaaDoor
open Go.RowKit

/-- The divisor's block behind the fifth statement. -/
def CutD (w W : World) (h b : Nat) (v : Value) (wx : World) : Prop :=
  ∃ D : Nat, v = .pointer (some ⟨D, 0, none⟩) ∧ h ≤ D ∧ D < wx.heap.size ∧ Below h W wx ∧ Below w.heap.size w wx ∧ wx.cell? ⟨D, 0, none⟩ = some (.int .u64 b)

theorem cutD_mk {w W wx : World} {h b D : Nat} (h1 : h ≤ D) (h2 : D < wx.heap.size) (h3 : Below h W wx) (h4 : Below w.heap.size w W) (h6 : w.heap.size ≤ h) (h5 : wx.cell? ⟨D, 0, none⟩ = some (.int .u64 b)) : CutD w W h b (.pointer (some ⟨D, 0, none⟩)) wx :=
  ⟨D, rfl, h1, h2, h3, h4.trans (h3.mono h6), h5⟩

theorem after4k {W w1 : World} {P : Prop} (b : Nat) (hb : Below W.heap.size W w1) (hB : b < W.heap.size)
    (c0 : W.cell? ⟨b, 0, none⟩ = some (.int .u64 0)) (c1 : W.cell? ⟨b, 1, none⟩ = some (.int .u64 0)) (c2 : W.cell? ⟨b, 2, none⟩ = some (.int .u64 0)) (c3 : W.cell? ⟨b, 3, none⟩ = some (.int .u64 0))
    (f0 : W.frozen? ⟨b, 0, none⟩ = false) (f1 : W.frozen? ⟨b, 1, none⟩ = false) (f2 : W.frozen? ⟨b, 2, none⟩ = false) (f3 : W.frozen? ⟨b, 3, none⟩ = false)
    (k : (w1.cell? ⟨b, 0, none⟩ = some (.int .u64 0) ∧ w1.cell? ⟨b, 1, none⟩ = some (.int .u64 0) ∧ w1.cell? ⟨b, 2, none⟩ = some (.int .u64 0) ∧ w1.cell? ⟨b, 3, none⟩ = some (.int .u64 0)) →
      (w1.frozen? ⟨b, 0, none⟩ = false ∧ w1.frozen? ⟨b, 1, none⟩ = false ∧ w1.frozen? ⟨b, 2, none⟩ = false ∧ w1.frozen? ⟨b, 3, none⟩ = false) → b < w1.heap.size → P) : P := by
  obtain ⟨q, f, z, -⟩ := after4 (B := 0) b hb (Below.refl _ _) (Nat.zero_le _) hB c0 c1 c2 c3 f0 f1 f2 f3
  exact k q f z

/-- Block b is o. -/
def Is (w : World) (b : Nat) (o : Obj) : Prop := w.heap[b]? = some o
theorem Is.new {w : World} {b : Nat} (o : Obj) (h : b = w.heap.size) : Is (w.alloc o) b o := by subst h; exact heap_alloc_new w o
theorem Is.lt {w : World} {b : Nat} {o : Obj} (h : Is w b o) : b < w.heap.size := by
  rcases Nat.lt_or_ge b w.heap.size with h' | h'
  · exact h'
  · unfold Is at h; simp [Array.getElem?_eq_none h'] at h
theorem Is.alloc {w : World} {b : Nat} {o : Obj} (h : Is w b o) (o' : Obj) : Is (w.alloc o') b o := (Below.heap_alloc w o' b h.lt).trans h
theorem Is.below {w w' : World} {b B : Nat} {o : Obj} (h : Is w b o) (hb : Below B w w') (hB : b < B) : Is w' b o := (hb.block b hB).trans h
theorem Is.but {w w' : World} {b S : Nat} {o : Obj} (h : Is w b o) (hb : But S w w') (hS : b ≠ S) : Is w' b o := (hb.block b hS).trans h
theorem Is.set {w : World} {b : Nat} {o : Obj} (h : Is w b o) {p : Addr} (hp : b ≠ p.block) (u : Value) : Is (w.setCell p u) b o := (Below.heap_setCell w p u b hp).trans h
theorem Is.z8 {w : World} {b : Nat} {t : TypeId} (h : Is w b (.cells #[.int .u64 0, .int .u64 0, .int .u64 0, .int .u64 0, .int .u64 0, .int .u64 0, .int .u64 0, .int .u64 0] t)) : (w.cell? ⟨b, 0, none⟩ = some (.int .u64 0) ∧ w.cell? ⟨b, 1, none⟩ = some (.int .u64 0) ∧ w.cell? ⟨b, 2, none⟩ = some (.int .u64 0) ∧ w.cell? ⟨b, 3, none⟩ = some (.int .u64 0) ∧ w.cell? ⟨b, 4, none⟩ = some (.int .u64 0) ∧ w.cell? ⟨b, 5, none⟩ = some (.int .u64 0) ∧ w.cell? ⟨b, 6, none⟩ = some (.int .u64 0) ∧ w.cell? ⟨b, 7, none⟩ = some (.int .u64 0)) ∧ (w.frozen? ⟨b, 0, none⟩ = false ∧ w.frozen? ⟨b, 1, none⟩ = false ∧ w.frozen? ⟨b, 2, none⟩ = false ∧ w.frozen? ⟨b, 3, none⟩ = false ∧ w.frozen? ⟨b, 4, none⟩ = false ∧ w.frozen? ⟨b, 5, none⟩ = false ∧ w.frozen? ⟨b, 6, none⟩ = false ∧ w.frozen? ⟨b, 7, none⟩ = false) := by
  unfold Is at h
  simp [World.cell?, World.frozen?, h]
theorem Is.z4 {w : World} {b : Nat} {t : TypeId} (h : Is w b (.cells #[.int .u64 0, .int .u64 0, .int .u64 0, .int .u64 0] t)) : (w.cell? ⟨b, 0, none⟩ = some (.int .u64 0) ∧ w.cell? ⟨b, 1, none⟩ = some (.int .u64 0) ∧ w.cell? ⟨b, 2, none⟩ = some (.int .u64 0) ∧ w.cell? ⟨b, 3, none⟩ = some (.int .u64 0)) ∧ (w.frozen? ⟨b, 0, none⟩ = false ∧ w.frozen? ⟨b, 1, none⟩ = false ∧ w.frozen? ⟨b, 2, none⟩ = false ∧ w.frozen? ⟨b, 3, none⟩ = false) := by
  unfold Is at h
  simp [World.cell?, World.frozen?, h]

theorem Is.set0 {w : World} {b : Nat} {t : TypeId} (h : Is w b (.cells #[.int .u64 0, .int .u64 0, .int .u64 0, .int .u64 0, .int .u64 0, .int .u64 0, .int .u64 0, .int .u64 0] t)) : Is (w.setCell ⟨b, 0, none⟩ (.int .u64 0)) b (.cells #[.int .u64 0, .int .u64 0, .int .u64 0, .int .u64 0, .int .u64 0, .int .u64 0, .int .u64 0, .int .u64 0] t) := by
  unfold Is at h ⊢
  simp [World.setCell, Array.getElem?_modify, h]

/-- The worlds of the last statement. -/
def ClR (w : World) (r4 r5 S Q x : Nat) (wx : World) : Prop := Below w.heap.size w wx ∧ Is wx r4 (.cells #[.int .u64 0, .int .u64 0, .int .u64 0, .int .u64 0, .int .u64 0, .int .u64 0, .int .u64 0, .int .u64 0] 43) ∧ Is wx r5 (.cells #[.int .u64 0, .int .u64 0, .int .u64 0, .int .u64 0] 24) ∧ Is wx Q (.cells #[.int .u64 0, .int .u64 0, .int .u64 0, .int .u64 0, .int .u64 0, .int .u64 0, .int .u64 0, .int .u64 0] 43) ∧ wx.cell? ⟨S, 0, none⟩ = some (.int .u64 x) ∧ wx.cell? ⟨S, 1, none⟩ = some (.int .u64 0) ∧ wx.cell? ⟨S, 2, none⟩ = some (.int .u64 0) ∧ wx.cell? ⟨S, 3, none⟩ = some (.int .u64 0) ∧ S < wx.heap.size
theorem ClR.below {w wx w' : World} {r4 r5 S Q x : Nat} (h : ClR w r4 r5 S Q x wx) (hb : Below wx.heap.size wx w') : ClR w r4 r5 S Q x w' := by
  obtain ⟨h0, h1, h2, h3, c0, c1, c2, c3, hs⟩ := h
  exact ⟨h0.trans (hb.mono h0.size), h1.below hb h1.lt, h2.below hb h2.lt, h3.below hb h3.lt, (hb.cell hs).trans c0, (hb.cell hs).trans c1, (hb.cell hs).trans c2, (hb.cell hs).trans c3, Nat.lt_of_lt_of_le hs hb.size⟩

/-- What one round of the long quotient leaves where the rest is one part below the divisor. -/
def OnePost (S x : Nat) (w : World) (e : Ending) (w' : World) : Prop :=
  e = .returned (.int .u64 0) ∧ But S w w' ∧ w'.cell? ⟨S, 0, none⟩ = some (.int .u64 x) ∧ w'.cell? ⟨S, 1, none⟩ = some (.int .u64 0) ∧ w'.cell? ⟨S, 2, none⟩ = w.cell? ⟨S, 2, none⟩ ∧ w'.cell? ⟨S, 3, none⟩ = w.cell? ⟨S, 3, none⟩

set_option maxRecDepth 100000 in
set_option maxHeartbeats 4000000 in
theorem divide_one (x b : Nat) (w : World)
    (hP : ∀ (B : Nat) (w : World), w.cell? ⟨B, 0, none⟩ = some (.int .u64 b) → w.cell? ⟨B, 1, none⟩ = some (.int .u64 0) → w.cell? ⟨B, 2, none⟩ = some (.int .u64 0) → w.cell? ⟨B, 3, none⟩ = some (.int .u64 0) →
      Calls Tryd.prog 31 #[.slice (some ⟨B, 0, none⟩) 4 4] w fun e w' => e = .returned (.int .i64 1) ∧ w = w')
    (hL : ∀ w, Calls Tryd.prog 32 #[.int .u64 b] w fun e w' => e = .returned (.int .i64 0) ∧ w = w')
    (hShl : ∀ w, Calls Tryd.prog 33 #[.agg #[.int .u64 0, .int .u64 0, .int .u64 0, .int .u64 0], .agg #[.int .u64 b, .int .u64 0, .int .u64 0, .int .u64 0]] w fun e w' => e = .returned (.agg #[.int .u64 b, .int .u64 0, .int .u64 0, .int .u64 0]) ∧ Below w.heap.size w w')
    (hR : ∀ w, Calls Tryd.prog 34 #[.agg #[.int .u64 x, .int .u64 0, .int .u64 0, .int .u64 0, .int .u64 0, .int .u64 0, .int .u64 0, .int .u64 0], .int .i64 0] w fun e w' => e = .returned (.agg #[.int .u64 x, .int .u64 0, .int .u64 0, .int .u64 0, .int .u64 0, .int .u64 0, .int .u64 0, .int .u64 0, .int .u64 0]) ∧ Below w.heap.size w w')
    (hPa : ∀ (B : Nat) (w : World), w.cell? ⟨B, 0, none⟩ = some (.int .u64 x) → w.cell? ⟨B, 1, none⟩ = some (.int .u64 0) → w.cell? ⟨B, 2, none⟩ = some (.int .u64 0) → w.cell? ⟨B, 3, none⟩ = some (.int .u64 0) → w.cell? ⟨B, 4, none⟩ = some (.int .u64 0) → w.cell? ⟨B, 5, none⟩ = some (.int .u64 0) → w.cell? ⟨B, 6, none⟩ = some (.int .u64 0) → w.cell? ⟨B, 7, none⟩ = some (.int .u64 0) →
      Calls Tryd.prog 31 #[.slice (some ⟨B, 0, none⟩) 8 8] w fun e w' => e = .returned (.int .i64 1) ∧ w = w')
    (hSt : ∀ (S D : Nat) (w : World), D ≠ S → w.cell? ⟨S, 0, none⟩ = some (.int .u64 x) → w.cell? ⟨S, 1, none⟩ = some (.int .u64 0) → w.frozen? ⟨S, 0, none⟩ = false → w.frozen? ⟨S, 1, none⟩ = false → w.cell? ⟨D, 0, none⟩ = some (.int .u64 b) →
      Calls Tryd.prog 35 #[.slice (some ⟨S, 0, none⟩) 2 9, .slice (some ⟨D, 0, none⟩) 1 4] w (OnePost S x w))
    (hSr : ∀ w, Calls Tryd.prog 36 #[.agg #[.int .u64 0, .int .u64 0, .int .u64 0, .int .u64 0], .agg #[.int .u64 x, .int .u64 0, .int .u64 0, .int .u64 0]] w fun e w' => e = .returned (.agg #[.int .u64 x, .int .u64 0, .int .u64 0, .int .u64 0]) ∧ Below w.heap.size w w') :
    Calls Tryd.prog 18 #[.agg #[.int .u64 x, .int .u64 0, .int .u64 0, .int .u64 0, .int .u64 0, .int .u64 0, .int .u64 0, .int .u64 0], .agg #[.int .u64 b, .int .u64 0, .int .u64 0, .int .u64 0]] w fun e w' =>
      e = .returned (.tuple #[.agg #[.int .u64 0, .int .u64 0, .int .u64 0, .int .u64 0, .int .u64 0, .int .u64 0, .int .u64 0, .int .u64 0], .agg #[.int .u64 x, .int .u64 0, .int .u64 0, .int .u64 0]]) ∧ Below w.heap.size w w' := by
  have HPa := Lib.hid hPa; clear hPa
  have HST := Lib.hid hSt; clear hSt
  have HSR := Lib.hid hSr; clear hSr
  have i4 : Is ((((w.alloc (.cells #[.int .u64 x, .int .u64 0, .int .u64 0, .int .u64 0, .int .u64 0, .int .u64 0, .int .u64 0, .int .u64 0] 43)).alloc (.cells #[.int .u64 b, .int .u64 0, .int .u64 0, .int .u64 0] 24)).alloc (.cells #[.int .u64 0, .int .u64 0, .int .u64 0, .int .u64 0, .int .u64 0, .int .u64 0, .int .u64 0, .int .u64 0] 43)).alloc (.cells #[.int .u64 0, .int .u64 0, .int .u64 0, .int .u64 0] 24)) (w.heap.size + 1 + 1) (.cells #[.int .u64 0, .int .u64 0, .int .u64 0, .int .u64 0, .int .u64 0, .int .u64 0, .int .u64 0, .int .u64 0] 43) := (Is.new _ (by simp)).alloc _
  have i5 : Is ((((w.alloc (.cells #[.int .u64 x, .int .u64 0, .int .u64 0, .int .u64 0, .int .u64 0, .int .u64 0, .int .u64 0, .int .u64 0] 43)).alloc (.cells #[.int .u64 b, .int .u64 0, .int .u64 0, .int .u64 0] 24)).alloc (.cells #[.int .u64 0, .int .u64 0, .int .u64 0, .int .u64 0, .int .u64 0, .int .u64 0, .int .u64 0, .int .u64 0] 43)).alloc (.cells #[.int .u64 0, .int .u64 0, .int .u64 0, .int .u64 0] 24)) (w.heap.size + 1 + 1 + 1) (.cells #[.int .u64 0, .int .u64 0, .int .u64 0, .int .u64 0] 24) := Is.new _ (by simp)
  have I4 := Lib.hid i4; clear i4
  have I5 := Lib.hid i5; clear i5
  have HP := Lib.hid hP; clear hP
  have HSH := Lib.hid hShl; clear hShl
  have HR := Lib.hid hR; clear hR
  have hof : ∀ w, Calls Tryd.prog 11 #[.int .u64 0] w fun e w' => e = .returned (.agg #[.int .u64 0, .int .u64 0, .int .u64 0, .int .u64 0]) ∧ w.alloc (.cells #[.int .u64 0, .int .u64 0, .int .u64 0, .int .u64 0] 24) = w' := fun w => of_exact 0 w
  have HOF := Lib.hid hof; clear hof
  have h0 : Below w.heap.size w ((((w.alloc (.cells #[.int .u64 x, .int .u64 0, .int .u64 0, .int .u64 0, .int .u64 0, .int .u64 0, .int .u64 0, .int .u64 0] 43)).alloc (.cells #[.int .u64 b, .int .u64 0, .int .u64 0, .int .u64 0] 24)).alloc (.cells #[.int .u64 0, .int .u64 0, .int .u64 0, .int .u64 0, .int .u64 0, .int .u64 0, .int .u64 0, .int .u64 0] 43)).alloc (.cells #[.int .u64 0, .int .u64 0, .int .u64 0, .int .u64 0] 24)) := by go_grown
  have H0 := Lib.hid h0; clear h0
  go_enter Tryd.func18, Tryd.ntmps18
  go_wp2_with fail
  refine (HP.out (w.heap.size + 1) ((((w.alloc (.cells #[.int .u64 x, .int .u64 0, .int .u64 0, .int .u64 0, .int .u64 0, .int .u64 0, .int .u64 0, .int .u64 0] 43)).alloc (.cells #[.int .u64 b, .int .u64 0, .int .u64 0, .int .u64 0] 24)).alloc (.cells #[.int .u64 0, .int .u64 0, .int .u64 0, .int .u64 0, .int .u64 0, .int .u64 0, .int .u64 0, .int .u64 0] 43)).alloc (.cells #[.int .u64 0, .int .u64 0, .int .u64 0, .int .u64 0] 24)) (by go_cell) (by go_cell) (by go_cell) (by go_cell)).mono ?_
  rintro e w' ⟨rfl, rfl⟩
  go_wp2_with fail
  refine (hL _).mono ?_
  rintro e w' ⟨rfl, rfl⟩
  go_wp2_with fail
  go_cut [8] (fun v wx => CutD w ((((w.alloc (.cells #[.int .u64 x, .int .u64 0, .int .u64 0, .int .u64 0, .int .u64 0, .int .u64 0, .int .u64 0, .int .u64 0] 43)).alloc (.cells #[.int .u64 b, .int .u64 0, .int .u64 0, .int .u64 0] 24)).alloc (.cells #[.int .u64 0, .int .u64 0, .int .u64 0, .int .u64 0, .int .u64 0, .int .u64 0, .int .u64 0, .int .u64 0] 43)).alloc (.cells #[.int .u64 0, .int .u64 0, .int .u64 0, .int .u64 0] 24)) (w.heap.size + 1 + 1 + 1 + 1) b v wx)
  case first =>
    go_region_with (first | (go_at_call 11; refine (HOF.out _).mono ?_; rintro e w' ⟨rfl, rfl⟩) | (go_at_call 33; refine (HSH.out _).mono ?_; rintro e w' ⟨rfl, hb⟩; (try (refine after4k (w.heap.size + 1 + 1 + 1 + 1) hb ?_ ?_ ?_ ?_ ?_ ?_ ?_ ?_ ?_ ?_; (focus (first | (simp; done) | (simp; omega))); (focus (go_cell; done)); (focus (go_cell; done)); (focus (go_cell; done)); (focus (go_cell; done)); (focus (go_cell; done)); (focus (go_cell; done)); (focus (go_cell; done)); (focus (go_cell; done)); rintro ⟨q0, q1, q2, q3⟩ ⟨fq0, fq1, fq2, fq3⟩ zq)); (try (refine after4k (w.heap.size + 1 + 1 + 1 + 1 + 1) hb ?_ ?_ ?_ ?_ ?_ ?_ ?_ ?_ ?_ ?_; (focus (first | (simp; done) | (simp; omega))); (focus (go_cell; done)); (focus (go_cell; done)); (focus (go_cell; done)); (focus (go_cell; done)); (focus (go_cell; done)); (focus (go_cell; done)); (focus (go_cell; done)); (focus (go_cell; done)); rintro ⟨r0, r1, r2, r3⟩ ⟨fr0, fr1, fr2, fr3⟩ zr))))
    all_goals go_wp2_with fail
    all_goals go_meet
    all_goals
      have hbs := hb.size
      have hb2 : Below (w.heap.size + 1 + 1 + 1 + 1) ((((w.alloc (.cells #[.int .u64 x, .int .u64 0, .int .u64 0, .int .u64 0, .int .u64 0, .int .u64 0, .int .u64 0, .int .u64 0] 43)).alloc (.cells #[.int .u64 b, .int .u64 0, .int .u64 0, .int .u64 0] 24)).alloc (.cells #[.int .u64 0, .int .u64 0, .int .u64 0, .int .u64 0, .int .u64 0, .int .u64 0, .int .u64 0, .int .u64 0] 43)).alloc (.cells #[.int .u64 0, .int .u64 0, .int .u64 0, .int .u64 0] 24)) w' := Below.trans (by go_grown) (hb.mono (by first | (simp; done) | (simp; omega)))
      simp at hbs
      refine cutD_mk ?_ ?_ ?_ H0.out (by omega) ?_
      · first | omega | (simp; omega)
      · first | omega | (simp; done) | (simp; omega)
      · go_grown
      · go_cell
  case rest =>
    obtain ⟨D, rfl, hD1, hD2, hB1, hB2, cD⟩ := hcut
    have a0 : wc.cell? ⟨w.heap.size, 0, none⟩ = some (.int .u64 x) := (hB1.cell (p := ⟨w.heap.size, 0, none⟩) (by simp; omega)).trans (by go_cell)
    have a1 : wc.cell? ⟨w.heap.size, 1, none⟩ = some (.int .u64 0) := (hB1.cell (p := ⟨w.heap.size, 1, none⟩) (by simp; omega)).trans (by go_cell)
    have a2 : wc.cell? ⟨w.heap.size, 2, none⟩ = some (.int .u64 0) := (hB1.cell (p := ⟨w.heap.size, 2, none⟩) (by simp; omega)).trans (by go_cell)
    have a3 : wc.cell? ⟨w.heap.size, 3, none⟩ = some (.int .u64 0) := (hB1.cell (p := ⟨w.heap.size, 3, none⟩) (by simp; omega)).trans (by go_cell)
    have a4 : wc.cell? ⟨w.heap.size, 4, none⟩ = some (.int .u64 0) := (hB1.cell (p := ⟨w.heap.size, 4, none⟩) (by simp; omega)).trans (by go_cell)
    have a5 : wc.cell? ⟨w.heap.size, 5, none⟩ = some (.int .u64 0) := (hB1.cell (p := ⟨w.heap.size, 5, none⟩) (by simp; omega)).trans (by go_cell)
    have a6 : wc.cell? ⟨w.heap.size, 6, none⟩ = some (.int .u64 0) := (hB1.cell (p := ⟨w.heap.size, 6, none⟩) (by simp; omega)).trans (by go_cell)
    have a7 : wc.cell? ⟨w.heap.size, 7, none⟩ = some (.int .u64 0) := (hB1.cell (p := ⟨w.heap.size, 7, none⟩) (by simp; omega)).trans (by go_cell)
    go_wp2_with fail
    refine (HR.out _).mono ?_
    rintro e w2 ⟨rfl, hb⟩
    have hsz : wc.heap.size ≤ w2.heap.size := hb.size
    have g0 : w2.cell? ⟨w.heap.size, 0, none⟩ = some (.int .u64 x) := (hb.cell (p := ⟨w.heap.size, 0, none⟩) (by show w.heap.size < wc.heap.size; omega)).trans a0
    have g1 : w2.cell? ⟨w.heap.size, 1, none⟩ = some (.int .u64 0) := (hb.cell (p := ⟨w.heap.size, 1, none⟩) (by show w.heap.size < wc.heap.size; omega)).trans a1
    have g2 : w2.cell? ⟨w.heap.size, 2, none⟩ = some (.int .u64 0) := (hb.cell (p := ⟨w.heap.size, 2, none⟩) (by show w.heap.size < wc.heap.size; omega)).trans a2
    have g3 : w2.cell? ⟨w.heap.size, 3, none⟩ = some (.int .u64 0) := (hb.cell (p := ⟨w.heap.size, 3, none⟩) (by show w.heap.size < wc.heap.size; omega)).trans a3
    have g4 : w2.cell? ⟨w.heap.size, 4, none⟩ = some (.int .u64 0) := (hb.cell (p := ⟨w.heap.size, 4, none⟩) (by show w.heap.size < wc.heap.size; omega)).trans a4
    have g5 : w2.cell? ⟨w.heap.size, 5, none⟩ = some (.int .u64 0) := (hb.cell (p := ⟨w.heap.size, 5, none⟩) (by show w.heap.size < wc.heap.size; omega)).trans a5
    have g6 : w2.cell? ⟨w.heap.size, 6, none⟩ = some (.int .u64 0) := (hb.cell (p := ⟨w.heap.size, 6, none⟩) (by show w.heap.size < wc.heap.size; omega)).trans a6
    have g7 : w2.cell? ⟨w.heap.size, 7, none⟩ = some (.int .u64 0) := (hb.cell (p := ⟨w.heap.size, 7, none⟩) (by show w.heap.size < wc.heap.size; omega)).trans a7
    have gD : w2.cell? ⟨D, 0, none⟩ = some (.int .u64 b) := (hb.cell (p := ⟨D, 0, none⟩) (by show D < wc.heap.size; omega)).trans cD
    have J4 := Lib.hid ((I4.out.below hB1 (by omega)).below hb (by omega))
    have J5 := Lib.hid ((I5.out.below hB1 (by omega)).below hb (by omega))
    have hB3 : Below w.heap.size w w2 := hB2.trans (hb.mono (by omega))
    clear hb hB1 hB2 a0 a1 a2 a3 a4 a5 a6 a7 cD
    have hDlt : D < w2.heap.size := by omega
    have hwlt : w.heap.size < w2.heap.size := by omega
    go_wp2_with fail
    refine (HPa.out w.heap.size ((w2.alloc (.cells #[.int .u64 x, .int .u64 0, .int .u64 0, .int .u64 0, .int .u64 0, .int .u64 0, .int .u64 0, .int .u64 0, .int .u64 0] 60)).alloc (.cells #[.int .u64 0, .int .u64 0, .int .u64 0, .int .u64 0, .int .u64 0, .int .u64 0, .int .u64 0, .int .u64 0] 43)) (by go_cell) (by go_cell) (by go_cell) (by go_cell) (by go_cell) (by go_cell) (by go_cell) (by go_cell)).mono ?_
    rintro e w' ⟨rfl, rfl⟩
    clear g0 g1 g2 g3 g4 g5 g6 g7
    go_wp2_with fail
    refine wp_loop_rounds 3 ?_
    rw [rounds_succ]; go_wp2_with fail
    have u1 : IntKind.i64.wrap 1 = 1 := rfl
    have u2 : IntKind.i64.wrap 2 = 2 := rfl
    have hcall := HST.out w2.heap.size D ((w2.alloc (.cells #[.int .u64 x, .int .u64 0, .int .u64 0, .int .u64 0, .int .u64 0, .int .u64 0, .int .u64 0, .int .u64 0, .int .u64 0] 60)).alloc (.cells #[.int .u64 0, .int .u64 0, .int .u64 0, .int .u64 0, .int .u64 0, .int .u64 0, .int .u64 0, .int .u64 0] 43)).drew (by omega) (by go_cell) (by go_cell) (by go_cell) (by go_cell) (by go_cell)
    have hne : w2.heap.size + 1 ≠ w2.heap.size := by omega
    have iq : Is ((w2.alloc (.cells #[.int .u64 x, .int .u64 0, .int .u64 0, .int .u64 0, .int .u64 0, .int .u64 0, .int .u64 0, .int .u64 0, .int .u64 0] 60)).alloc (.cells #[.int .u64 0, .int .u64 0, .int .u64 0, .int .u64 0, .int .u64 0, .int .u64 0, .int .u64 0, .int .u64 0] 43)).drew (w2.heap.size + 1) (.cells #[.int .u64 0, .int .u64 0, .int .u64 0, .int .u64 0, .int .u64 0, .int .u64 0, .int .u64 0, .int .u64 0] 43) := Is.new (w := w2.alloc (.cells #[.int .u64 x, .int .u64 0, .int .u64 0, .int .u64 0, .int .u64 0, .int .u64 0, .int .u64 0, .int .u64 0, .int .u64 0] 60)) _ (by simp)
    have HCA := Lib.hid hcall; clear hcall
    have IQ := Lib.hid iq; clear iq
    have HNE := Lib.hid hne; clear hne
    go_region_with (go_at_call 35; refine HCA.out.mono ?_; rintro e w3 ⟨rfl, hbut, s0, s1, s2, s3⟩; obtain ⟨⟨q0, q1, q2, q3, q4, q5, q6, q7⟩, ⟨f0, -⟩⟩ := (IQ.out.but hbut HNE.out).z8)
    have t2 : w3.cell? ⟨w2.heap.size, 2, none⟩ = some (.int .u64 0) := s2.trans (by go_cell)
    have t3 : w3.cell? ⟨w2.heap.size, 3, none⟩ = some (.int .u64 0) := s3.trans (by go_cell)
    clear s2 s3
    go_wp2_with fail
    rw [rounds_succ]; go_wp2_with fail
    have z3 : w3.heap.size = w2.heap.size + 1 + 1 := by have h := hbut.size; simpa using h
    have hl4 : w.heap.size + 1 + 1 < w2.heap.size := J4.out.lt
    have hl5 : w.heap.size + 1 + 1 + 1 < w2.heap.size := J5.out.lt
    have ne4 : w.heap.size + 1 + 1 ≠ w2.heap.size := by omega
    have ne5 : w.heap.size + 1 + 1 + 1 ≠ w2.heap.size := by omega
    have g4 : Is (w3.setCell ⟨w2.heap.size + 1, 0, none⟩ (.int .u64 0)).drew (w.heap.size + 1 + 1) (.cells #[.int .u64 0, .int .u64 0, .int .u64 0, .int .u64 0, .int .u64 0, .int .u64 0, .int .u64 0, .int .u64 0] 43) := (Is.but (w := ((w2.alloc (.cells #[.int .u64 x, .int .u64 0, .int .u64 0, .int .u64 0, .int .u64 0, .int .u64 0, .int .u64 0, .int .u64 0, .int .u64 0] 60)).alloc (.cells #[.int .u64 0, .int .u64 0, .int .u64 0, .int .u64 0, .int .u64 0, .int .u64 0, .int .u64 0, .int .u64 0] 43)).drew) ((J4.out.alloc _).alloc _) hbut ne4).set (p := ⟨w2.heap.size + 1, 0, none⟩) (by show w.heap.size + 1 + 1 ≠ w2.heap.size + 1; omega) _
    have g5 : Is (w3.setCell ⟨w2.heap.size + 1, 0, none⟩ (.int .u64 0)).drew (w.heap.size + 1 + 1 + 1) (.cells #[.int .u64 0, .int .u64 0, .int .u64 0, .int .u64 0] 24) := (Is.but (w := ((w2.alloc (.cells #[.int .u64 x, .int .u64 0, .int .u64 0, .int .u64 0, .int .u64 0, .int .u64 0, .int .u64 0, .int .u64 0, .int .u64 0] 60)).alloc (.cells #[.int .u64 0, .int .u64 0, .int .u64 0, .int .u64 0, .int .u64 0, .int .u64 0, .int .u64 0, .int .u64 0] 43)).drew) ((J5.out.alloc _).alloc _) hbut ne5).set (p := ⟨w2.heap.size + 1, 0, none⟩) (by show w.heap.size + 1 + 1 + 1 ≠ w2.heap.size + 1; omega) _
    have gq : Is (w3.setCell ⟨w2.heap.size + 1, 0, none⟩ (.int .u64 0)).drew (w2.heap.size + 1) (.cells #[.int .u64 0, .int .u64 0, .int .u64 0, .int .u64 0, .int .u64 0, .int .u64 0, .int .u64 0, .int .u64 0] 43) := (IQ.out.but hbut HNE.out).set0
    have hB5 : Below w.heap.size w (w3.setCell ⟨w2.heap.size + 1, 0, none⟩ (.int .u64 0)).drew := ((But.below (w := ((w2.alloc (.cells #[.int .u64 x, .int .u64 0, .int .u64 0, .int .u64 0, .int .u64 0, .int .u64 0, .int .u64 0, .int .u64 0, .int .u64 0] 60)).alloc (.cells #[.int .u64 0, .int .u64 0, .int .u64 0, .int .u64 0, .int .u64 0, .int .u64 0, .int .u64 0, .int .u64 0] 43)).drew) (hB3.trans (Below.mono (B := w2.heap.size) (by go_grown) (by omega))) hbut (by omega)).setCell (by show w.heap.size ≤ w2.heap.size + 1; omega) _).drew
    have zq : w2.heap.size < w3.heap.size := by omega
    have G4 := Lib.hid g4; clear g4
    have G5 := Lib.hid g5; clear g5
    have GQ := Lib.hid gq; clear gq
    have HB5 := Lib.hid hB5; clear hB5
    clear z3 ne4 ne5
    clear q0 q1 q2 q3 q4 q5 q6 q7 f0
    have hat := arrayAt4
    have hcl : ClR w (w.heap.size + 1 + 1) (w.heap.size + 1 + 1 + 1) w2.heap.size (w2.heap.size + 1) x (w3.setCell ⟨w2.heap.size + 1, 0, none⟩ (.int .u64 0)).drew := ⟨HB5.out, G4.out, G5.out, GQ.out, (by go_cell), (by go_cell), (by go_cell), (by go_cell), (by show w2.heap.size < (w3.setCell ⟨w2.heap.size + 1, 0, none⟩ (.int .u64 0)).heap.size; simp; exact zq)⟩
    refine region_quiet_tail 8 (ClR w (w.heap.size + 1 + 1) (w.heap.size + 1 + 1 + 1) w2.heap.size (w2.heap.size + 1) x) (by kernel_rfl) (by kernel_rfl) hcl ?_
    simp only [List.take_succ_cons, List.take_zero, List.drop_succ_cons, List.drop_zero]
    clear hcl
    refine wpQuiet_step (fun K hK => ?_)
    rw [if_pos (by rfl)]
    refine ⟨.agg #[.int .u64 0, .int .u64 0, .int .u64 0, .int .u64 0, .int .u64 0, .int .u64 0, .int .u64 0, .int .u64 0], fun wx hC => ?_, hK _ ?_⟩
    · obtain ⟨-, -, -, h3, -, -, -, -, -⟩ := hC
      obtain ⟨⟨q0, q1, q2, q3, q4, q5, q6, q7⟩, -⟩ := h3.z8
      go_simp
    clear hK K
    refine wpQuiet_step (fun K hK => ?_)
    go_simp
    refine ⟨_, fun _ _ => rfl, hK _ ?_⟩
    clear hK K
    refine wpQuiet_step (fun K hK => ?_)
    go_simp
    refine ⟨_, fun _ _ => rfl, hK _ ?_⟩
    clear hK K
    refine wpQuiet_step (fun K hK => ?_)
    rw [if_pos (by rfl)]
    refine ⟨.agg #[.int .u64 0, .int .u64 0, .int .u64 0, .int .u64 0], fun wx hC => ?_, hK _ ?_⟩
    · go_simp
      refine (HOF.out _).mono ?_
      rintro e w' ⟨rfl, rfl⟩
      exact ⟨rfl, hC.below (by go_grown)⟩
    clear hK K
    refine wpQuiet_step (fun K hK => ?_)
    go_simp
    refine ⟨_, fun _ _ => rfl, hK _ ?_⟩
    clear hK K
    refine wpQuiet_step (fun K hK => ?_)
    go_simp
    refine ⟨_, fun _ _ => rfl, hK _ ?_⟩
    clear hK K
    refine wpQuiet_step (fun K hK => ?_)
    rw [if_pos (by rfl)]
    refine ⟨.agg #[.int .u64 x, .int .u64 0, .int .u64 0, .int .u64 0], fun wx hC => ?_, hK _ ?_⟩
    · obtain ⟨-, -, -, -, c0, c1, c2, c3, -⟩ := hC
      go_simp
    clear hK K
    refine wpQuiet_step (fun K hK => ?_)
    rw [if_pos (by rfl)]
    refine ⟨.agg #[.int .u64 x, .int .u64 0, .int .u64 0, .int .u64 0], fun wx hC => ?_, hK _ ?_⟩
    · go_simp
      refine (HSR.out _).mono ?_
      rintro e w' ⟨rfl, hb⟩
      exact ⟨rfl, hC.below hb⟩
    clear hK K
    refine wpQuiet_nil ?_
    intro wx hC
    obtain ⟨h0, h4, h5, -, -, -, -, -, -⟩ := hC
    obtain ⟨⟨c0, c1, c2, c3, c4, c5, c6, c7⟩, ⟨e0, e1, e2, e3, e4, e5, e6, e7⟩⟩ := h4.z8
    obtain ⟨⟨k0, k1, k2, k3⟩, ⟨l0, l1, l2, l3⟩⟩ := h5.z4
    have hlt4 := h4.lt
    have hlt5 := h5.lt
    clear h4 h5
    go_wp2
    refine bodyPost_ret (by simp [results, Tryd.results18, go_sem, c0, c1, c2, c3, c4, c5, c6, c7, k0, k1, k2, k3]; try rfl) rfl ⟨rfl, ?_⟩
    go_grown
end Go.Proofs.YtmhgnlngcjckbaaDoor
namespace Go.Proofs.YtmhgnlngcjckbaaDoor
open Go.RowKit

theorem wv_one {x : Nat} (h : x < 18446744073709551616) : wv x = .agg #[.int .u64 x, .int .u64 0, .int .u64 0, .int .u64 0] := by
  have := wv_n4 (a0 := x) (a1 := 0) (a2 := 0) (a3 := 0) h (by omega) (by omega) (by omega)
  rw [show n4 x 0 0 0 = x by unfold n4; omega] at this
  exact this
theorem wv_none : wv 0 = .agg #[.int .u64 0, .int .u64 0, .int .u64 0, .int .u64 0] := wv_one (by omega)

theorem raise_zero (x : Nat) (hx : x < 18446744073709551616) (w : World) : Calls Tryd.prog 34 #[.agg #[.int .u64 x, .int .u64 0, .int .u64 0, .int .u64 0, .int .u64 0, .int .u64 0, .int .u64 0, .int .u64 0], .int .i64 0] w fun e w' => e = .returned (.agg #[.int .u64 x, .int .u64 0, .int .u64 0, .int .u64 0, .int .u64 0, .int .u64 0, .int .u64 0, .int .u64 0, .int .u64 0]) ∧ Below w.heap.size w w' := by
  have h := raise_walk x 0 0 0 0 0 0 0 0 64 (by omega) (by omega) (by omega) w
  have e0 : bits .or .u64 0 (IntKind.u64.wrap ((x : Int) * 2 ^ 0)) = (x : Int) := by
    have := cmb_down (p := 0) (q := x) (s := 64) (t := 0) (by omega) (by omega)
    simp only [Nat.zero_div, Nat.zero_add, Nat.pow_zero, Nat.mul_one, Nat.mod_eq_of_lt hx] at this
    exact this
  have e1 : bits .or .u64 ((x : Int) / 2 ^ 64) (IntKind.u64.wrap (((0 : Nat) : Int) * 2 ^ 0)) = 0 := by
    have := cmb_down (p := x) (q := 0) (s := 64) (t := 0) hx (by omega)
    rw [Nat.zero_mul, Nat.zero_mod, Nat.div_eq_of_lt (show x < 2 ^ 64 by omega)] at this
    exact this
  have e2 : bits .or .u64 (((0 : Nat) : Int) / 2 ^ 64) (IntKind.u64.wrap (((0 : Nat) : Int) * 2 ^ 0)) = 0 := by
    have := cmb_down (p := 0) (q := 0) (s := 64) (t := 0) (by omega) (by omega)
    rw [Nat.zero_mul, Nat.zero_mod, Nat.zero_div] at this
    exact this
  have e3 : (((0 : Nat) : Int) / 2 ^ 64) = 0 := by simp
  rw [e0, e1, e2, e3] at h
  exact h

theorem step_one (x b : Nat) (hx : x < b) (hb0 : 9223372036854775808 ≤ b) (hb1 : b < 18446744073709551616) (S D : Nat) (w : World) (hne : D ≠ S) (c0 : w.cell? ⟨S, 0, none⟩ = some (.int .u64 x)) (c1 : w.cell? ⟨S, 1, none⟩ = some (.int .u64 0)) (f0 : w.frozen? ⟨S, 0, none⟩ = false) (f1 : w.frozen? ⟨S, 1, none⟩ = false) (d0 : w.cell? ⟨D, 0, none⟩ = some (.int .u64 b)) :
    Calls Tryd.prog 35 #[.slice (some ⟨S, 0, none⟩) 2 9, .slice (some ⟨D, 0, none⟩) 1 4] w (OnePost S x w) := by
  have hr : val (fun j => if j = 0 then x else 0) 2 = x := by simp [val]
  have hd : val (fun _ => b) 1 = b := by simp [val]
  have h := step_any S 0 9 D 4 0 (fun j => if j = 0 then x else 0) (fun _ => b) (by omega) (fun j _ => by show (if j = 0 then x else 0) < 18446744073709551616; split <;> omega) (fun _ _ => hb1) hb0 (by rw [hr, hd]; omega) hne w
    (fun j hj => by
      rcases j with _ | _ | j
      · exact c0
      · exact c1
      · omega)
    (fun j hj => by
      rcases j with _ | _ | j
      · exact f0
      · exact f1
      · omega)
    (fun j hj => by
      rcases j with _ | j
      · exact d0
      · omega)
  refine h.mono fun e w' ⟨ns, he, hb, hv, ho⟩ => ?_
  rw [hr, hd, Nat.div_eq_of_lt hx] at he
  rw [hr, hd, Nat.mod_eq_of_lt hx] at hv
  have h0 := hb 0 (by omega)
  have h1 := hb 1 (by omega)
  simp only [val, Nat.pow_zero, Nat.zero_add, Nat.one_mul, Nat.pow_one] at hv
  have n1 : ns 1 = 0 := by omega
  have n0 : ns 0 = x := by omega
  refine ⟨he, ho.1, ?_, ?_, ?_, ?_⟩
  · rw [ho.2 0, if_pos (by omega), n0]
  · rw [ho.2 1, if_pos (by omega), n1]; rfl
  · rw [ho.2 2, if_neg (by omega)]
  · rw [ho.2 3, if_neg (by omega)]

theorem parts_one (x n : Nat) (hx : x ≠ 0) (hn : (n : Int) ≤ 1000) (B : Nat) (w : World) (hc : ∀ j, j < n + 1 → w.cell? ⟨B, 0 + j, none⟩ = some (.int .u64 ((if j = 0 then x else 0 : Nat) : Int))) :
    Calls Tryd.prog 31 #[.slice (some ⟨B, 0, none⟩) ((n + 1 : Nat)) ((n + 1 : Nat))] w fun e w' => e = .returned (.int .i64 1) ∧ w = w' := by
  have h := parts_any B 0 (n + 1) (n + 1) (fun j => if j = 0 then x else 0) (by omega) w hc
  have e : ∀ k, np (fun j => if j = 0 then x else 0) (k + 1) = 1 := fun k => by
    induction k with
    | zero => simp [np, hx]
    | succ k ih => rw [np, if_pos (by simp)]; exact ih
  rw [e] at h
  exact h

-- WHAT divide COMES TO, one part by a greater one.
theorem divide_small (x b : Nat) (hx0 : x ≠ 0) (hx : x < b) (hb0 : 9223372036854775808 ≤ b) (hb1 : b < 18446744073709551616) (w : World) :
    Calls Tryd.prog 18 #[.agg #[.int .u64 x, .int .u64 0, .int .u64 0, .int .u64 0, .int .u64 0, .int .u64 0, .int .u64 0, .int .u64 0], .agg #[.int .u64 b, .int .u64 0, .int .u64 0, .int .u64 0]] w fun e w' => e = .returned (.tuple #[.agg #[.int .u64 0, .int .u64 0, .int .u64 0, .int .u64 0, .int .u64 0, .int .u64 0, .int .u64 0, .int .u64 0], .agg #[.int .u64 x, .int .u64 0, .int .u64 0, .int .u64 0]]) ∧ Below w.heap.size w w' := by
  have hz : Lib.bitLen ((b : Int)).toNat = 64 := by rw [Int.toNat_natCast]; exact bitLen_full b hb1 hb0
  refine divide_one x b w (fun B w c0 c1 c2 c3 => parts_one b 3 (by omega) (by omega) B w (fun j hj => by
      rcases j with _ | _ | _ | _ | j
      · exact c0
      · exact c1
      · exact c2
      · exact c3
      · omega))
    (fun w => (Tryd.bits_LeadingZeros64 b w (by omega) (by omega)).mono fun e w' ⟨he, hw⟩ => ⟨by rw [he, hz]; rfl, hw.symm⟩)
    (fun w => by
      have h := shl_any 0 b w
      rw [show min (0 % 115792089237316195423570985008687907853269984665640564039457584007913129639936) 256 = 0 by rfl, Nat.pow_zero, Nat.mul_one, wv_none, wv_one hb1] at h
      exact h)
    (fun w => raise_zero x (by omega) w)
    (fun B w c0 c1 c2 c3 c4 c5 c6 c7 => parts_one x 7 hx0 (by omega) B w (fun j hj => by
      rcases j with _ | _ | _ | _ | _ | _ | _ | _ | j
      · exact c0
      · exact c1
      · exact c2
      · exact c3
      · exact c4
      · exact c5
      · exact c6
      · exact c7
      · omega))
    (fun S D w hne c0 c1 f0 f1 d0 => step_one x b hx hb0 hb1 S D w hne c0 c1 f0 f1 d0)
    (fun w => by
      have h := shr_any 0 x w
      rw [show min (0 % 115792089237316195423570985008687907853269984665640564039457584007913129639936) 256 = 0 by rfl, Nat.pow_zero, Nat.div_one, Nat.mod_eq_of_lt (by omega), wv_none, wv_one (by omega)] at h
      exact h)
end Go.Proofs.YtmhgnlngcjckbaaDoor
namespace Go.Proofs.YtmhgnlngcjckbaaDoor
open Go.RowKit

theorem CF.below {w wx w' : World} {Y : Nat} (h : CF w Y wx) (hb : Below wx.heap.size wx w') : CF w Y w' :=
  ⟨(hb.block _ (Array.getElem?_eq_some_iff.1 h.1).1).trans h.1, (hb.block _ (Array.getElem?_eq_some_iff.1 h.2.1).1).trans h.2.1, h.2.2.trans (hb.mono h.2.2.size)⟩
theorem CF.at1 {w wx : World} {Y : Nat} (h : CF w Y wx) : wx.heap[w.heap.size + 1]? = some (.cells (pw Y) 24 (0, 0)) := h.2.1
theorem CF.row {w wx : World} {Y Z : Nat} (h : CF w Y wx) : CF w Z (wx.setRow (w.heap.size + 1) (pw Z)) :=
  ⟨(setRow_other _ _ _ _ (by omega)).trans h.1, setRow_heap _ _ _ _ _ _ h.2.1, below_setRow h.2.2 (by omega) _⟩

set_option maxRecDepth 100000 in
set_option maxHeartbeats 2000000 in
theorem fromr_walk (g o n cap : Nat) (f : Nat → Nat) (hf : ∀ j, j < n → f j < 256) (hn : (n : Int) ≤ 140737488355328) (w : World) (hg : g < w.heap.size) (hc : ∀ j, j < n → w.cell? ⟨g, o + j, none⟩ = some (.int .u8 (f j : Nat))) :
    Calls Tryd.prog 8 #[.slice (some ⟨g, o, none⟩) n cap] w fun e w' => e = .returned (.agg (pw (fnum f n))) ∧ Below w.heap.size w w' := by
  have hn0 : (0 : Int) ≤ n := by omega
  have HF := Lib.hid hf; clear hf
  have HC := Lib.hid hc; clear hc
  go_enter Tryd.func8, Tryd.ntmps8
  go_wp2_with fail
  go_loopw [4] (fun iv wr => ∃ i : Nat, i ≤ n ∧ iv = .int .i64 i ∧ Hid (CF w (fnum f i) wr)) (fun iv _ => n - (intOf iv).toNat)
  case atStart => exact ⟨0, by omega, rfl, Lib.hid ⟨(heap2 _ _ _).1, by rw [show fnum f 0 = 0 from rfl]; exact (heap2 _ _ _).2, by go_grown⟩⟩
  case round =>
    obtain ⟨i, hi, rfl, H⟩ := hrel
    have hi0 : (0 : Int) ≤ i := by omega
    have hi1 : (i : Int) ≤ 140737488355328 := by omega
    by_cases hlt : i < n
    · have hlt' : (i : Int) < n := by omega
      have hx := HF.out i hlt
      obtain ⟨x, hxe⟩ : ∃ x, f i = x := ⟨_, rfl⟩
      rw [hxe] at hx
      have hx0 : (0 : Int) ≤ (x : Nat) := by omega
      have hx1 : ((x : Nat) : Int) ≤ 255 := by omega
      have hxw : IntKind.u64.wrap ((x : Nat) : Int) = ((x : Nat) : Int) := by rw [IntKind.wrap_u64]; omega
      have HX := Lib.hid (HC.out i hlt)
      rw [hxe] at HX
      obtain ⟨Y, hY⟩ : ∃ Y, fnum f i = Y := ⟨_, rfl⟩
      have hnext : fnum f (i + 1) = Y * 256 + x := by rw [fnum, hY, hxe]
      rw [hY] at H
      have HNEXT := Lib.hid hnext; clear hnext hY hxe
      have k1 : ∀ wx, CF w Y wx → Calls Tryd.prog 17 #[wv Y, .agg #[.int .u64 256, .int .u64 0, .int .u64 0, .int .u64 0]] wx fun e w' => e = .returned (wv (Y * 256)) ∧ CF w Y w' := fun wx hC => by
        have h : Calls Tryd.prog 17 #[wv Y, wv 256] wx _ := mul_ref Y 256 wx
        rw [wv_one (x := 256) (by omega)] at h
        exact h.mono fun _ _ h => ⟨h.1, hC.below h.2⟩
      have k2 : ∀ wx, CF w Y wx → Calls Tryd.prog 16 #[wv (Y * 256), .agg #[.int .u64 (x : Nat), .int .u64 0, .int .u64 0, .int .u64 0]] wx fun e w' => e = .returned (wv (Y * 256 + x)) ∧ CF w Y w' := fun wx hC => by
        have h : Calls Tryd.prog 16 #[wv (Y * 256), wv x] wx _ := add_ref (Y * 256) x wx
        rw [wv_one (x := x) (by omega)] at h
        exact h.mono fun _ _ h => ⟨h.1, hC.below h.2⟩
      have K1 := Lib.hid k1; clear k1
      have K2 := Lib.hid k2; clear k2
      go_wp2_with fail
      refine region_quiet_tail 10 (CF w Y) (by kernel_rfl) (by kernel_rfl) H.out.drew ?_
      simp only [List.take_succ_cons, List.take_zero, List.drop_succ_cons, List.drop_zero]
      with_reducible refine q_load 24 (.tmp 3) (.pointer (some ⟨w.heap.size + 1, 0, none⟩)) (wv Y) rfl (by kernel_rfl) (by kernel_rfl) (fun wx hC => load_pw hC.at1) ?_
      refine wpQuiet_step (fun K hK => ?_)
      go_simp
      refine ⟨_, fun _ _ => rfl, hK _ ?_⟩
      clear hK K
      with_reducible refine q_call 17 #[wv Y, .agg #[.int .u64 256, .int .u64 0, .int .u64 0, .int .u64 0]] (wv (Y * 256)) (by kernel_rfl) (fun _ => by kernel_rfl) K1.out ?_
      refine wpQuiet_step (fun K hK => ?_)
      go_simp
      refine ⟨_, fun _ _ => rfl, hK _ ?_⟩
      clear hK K
      refine wpQuiet_step (fun K hK => ?_)
      go_simp
      refine ⟨_, fun _ _ => rfl, hK _ ?_⟩
      clear hK K
      refine wpQuiet_step (fun K hK => ?_)
      go_simp
      refine ⟨_, fun _ _ => rfl, hK _ ?_⟩
      clear hK K
      refine wpQuiet_step (fun K hK => ?_)
      rw [if_pos (by rfl)]
      refine ⟨.int .u8 (x : Nat), fun wx hC => ?_, hK _ ?_⟩
      · have ca : wx.cell? ⟨g, o + i, none⟩ = some (.int .u8 (x : Nat)) := (hC.2.2.cell (p := ⟨g, o + i, none⟩) hg).trans HX.out
        go_simp
      clear hK K
      refine wpQuiet_step (fun K hK => ?_)
      go_simp
      refine ⟨_, fun _ _ => rfl, hK _ ?_⟩
      clear hK K
      refine wpQuiet_step (fun K hK => ?_)
      go_simp
      refine ⟨_, fun _ _ => rfl, hK _ ?_⟩
      clear hK K
      with_reducible refine q_call 16 #[wv (Y * 256), .agg #[.int .u64 (x : Nat), .int .u64 0, .int .u64 0, .int .u64 0]] (wv (Y * 256 + x)) (by kernel_rfl) (fun _ => by kernel_rfl) K2.out ?_
      refine wpQuiet_nil ?_
      intro wx hC
      have HX2 := Lib.hid hC; clear hC
      go_wp2_with (refine wpList_store_row rfl 24 _ _ rfl (w.heap.size + 1) (pw (Y * 256 + x)) rfl rfl 24 (pw Y) HX2.out.2.1 infoWord rfl (pw_one _) ?_)
      go_roundw
      case rel => exact ⟨i + 1, by omega, by go_num, Lib.hid (by rw [HNEXT.out]; exact HX2.out.row)⟩
      case measure => first | (simp [intOf]; done) | (simp [intOf]; omega)
    · obtain rfl : i = n := by omega
      go_wp2_with (first | (refine wpList_load_row rfl 24 _ rfl (w.heap.size + 1) rfl 24 _ (0, 0) _ H.out.2.1 Tryd.underlying24 rfl infoWord ?_) | (refine wpList_store_row rfl 24 _ _ rfl w.heap.size (pw (fnum f i)) rfl rfl 24 #[.int .u64 0, .int .u64 0, .int .u64 0, .int .u64 0] H.out.1 infoWord rfl (pw_one _) ?_))
      (try simp only [Exit.inBlock, Exit.then])
      exact bodyPost_ret (v := .agg (pw (fnum f i))) (results_cell_row (p := 2) rfl _ _ w.heap.size 24 _ (0, 0) _ rfl (setRow_heap _ _ _ _ _ _ H.out.1) Tryd.underlying24 rfl infoWord) rfl ⟨rfl, below_setRow H.out.2.2 (Nat.le_refl _) _⟩
end Go.Proofs.YtmhgnlngcjckbaaDoor
namespace Go.Proofs.YtmhgnlngcjckbaaDoor
open Go.RowKit

set_option maxRecDepth 100000 in
set_option maxHeartbeats 1000000 in
theorem from_nil (w : World) : Calls Tryd.prog 7 #[.slice none 0 0] w fun e w' => e = .returned (.agg #[.int .u64 0, .int .u64 0, .int .u64 0, .int .u64 0]) ∧ Below w.heap.size w w' := by
  go_enter Tryd.func7, Tryd.ntmps7
  go_wp2
  refine wp_loop_rounds 1 ?_
  rw [rounds_succ]; go_wp2
  go_returns
  exact ⟨rfl, by go_grown⟩
set_option maxRecDepth 100000 in
set_option maxHeartbeats 1000000 in
theorem fromr_nil (w : World) : Calls Tryd.prog 8 #[.slice none 0 0] w fun e w' => e = .returned (.agg #[.int .u64 0, .int .u64 0, .int .u64 0, .int .u64 0]) ∧ Below w.heap.size w w' := by
  go_enter Tryd.func8, Tryd.ntmps8
  go_wp2
  refine wp_loop_rounds 1 ?_
  rw [rounds_succ]; go_wp2
  go_returns
  exact ⟨rfl, by go_grown⟩
-- WHAT From COMES TO, for bytes in a slice that is not nil.
theorem from_any (g o n cap : Nat) (f : Nat → Nat) (hf : ∀ j, j < n → f j < 256) (hcap : n ≤ cap) (hn : (n : Int) ≤ 140737488355328) (w : World) (hg : g < w.heap.size) (hc : ∀ j, j < n → w.cell? ⟨g, o + j, none⟩ = some (.int .u8 (f j : Nat))) :
    Calls Tryd.prog 7 #[.slice (some ⟨g, o, none⟩) n cap] w fun e w' => e = .returned (wv (fnum f n)) ∧ Below w.heap.size w w' := by
  have h := from_walk g o n cap (n - 32) (n - (n - 32)) f hf rfl (by omega) hcap hn w hg hc
  rw [← wv_pw] at h
  by_cases h32 : n ≤ 32
  · rw [show n - 32 = 0 by omega, Nat.sub_zero] at h
    simp only [Nat.zero_add] at h
    exact h
  · obtain ⟨k, rfl⟩ : ∃ k, n = k + 32 := ⟨n - 32, by omega⟩
    rw [show k + 32 - 32 = k by omega, show k + 32 - k = 32 by omega, ← fnum_last] at h
    exact h
theorem fromr_any (g o n cap : Nat) (f : Nat → Nat) (hf : ∀ j, j < n → f j < 256) (hn : (n : Int) ≤ 140737488355328) (w : World) (hg : g < w.heap.size) (hc : ∀ j, j < n → w.cell? ⟨g, o + j, none⟩ = some (.int .u8 (f j : Nat))) :
    Calls Tryd.prog 8 #[.slice (some ⟨g, o, none⟩) n cap] w fun e w' => e = .returned (wv (fnum f n)) ∧ Below w.heap.size w w' := fromr_walk g o n cap f hf hn w hg hc
/-- A word is the number of its bytes. -/
theorem fnum_bt (x : Nat) : ∀ k, k ≤ 32 → fnum (bt x) k = x % 115792089237316195423570985008687907853269984665640564039457584007913129639936 / 256 ^ (32 - k)
  | 0, _ => by
    rw [fnum, Nat.sub_zero, show (256 : Nat) ^ 32 = 115792089237316195423570985008687907853269984665640564039457584007913129639936 by rfl]
    exact (Nat.div_eq_of_lt (Nat.mod_lt _ (by omega))).symm
  | k + 1, h => by
    rw [fnum, fnum_bt x k (by omega)]
    unfold bt
    rw [show 31 - k = 32 - (k + 1) by omega, show 32 - k = 32 - (k + 1) + 1 by omega, Nat.pow_succ, ← Nat.div_div_eq_div_mul]
    generalize x % 115792089237316195423570985008687907853269984665640564039457584007913129639936 / 256 ^ (32 - (k + 1)) = y
    omega
theorem fnum_word (x : Nat) : wv (fnum (bt x) 32) = wv x := by
  rw [fnum_bt x 32 (Nat.le_refl _), Nat.sub_self, Nat.pow_zero, Nat.div_one]
  exact wv_congr (Nat.mod_mod _ _)
end Go.Proofs.YtmhgnlngcjckbaaDoor
namespace Go.Proofs.YtmhgnlngcjckbaaDoor
open Go.RowKit

/-- A list, or none, of n bytes. -/
def RdB (w : World) (a : Option Addr) (n : Nat) (f : Nat → Nat) : Prop := n = 0 ∨ ∃ b o, a = some ⟨b, o, none⟩ ∧ b < w.heap.size ∧ ∀ j, j < n → w.cell? ⟨b, o + j, none⟩ = some (.int .u8 (f j : Nat))
theorem RdB.below {w w' : World} {a : Option Addr} {n : Nat} {f : Nat → Nat} (h : RdB w a n f) (hb : Below w.heap.size w w') : RdB w' a n f := by
  rcases h with h | ⟨b, o, h1, h2, h3⟩
  · exact .inl h
  · exact .inr ⟨b, o, h1, Nat.lt_of_lt_of_le h2 hb.size, fun j hj => (hb.cell (p := ⟨b, o + j, none⟩) h2).trans (h3 j hj)⟩
theorem RdB.at_ {w : World} {a : Option Addr} {n : Nat} {f : Nat → Nat} (h : RdB w a n f) (cap k : Nat) (hk : k < n) : ∃ p : Addr, (∀ w, (Instr.indexAt 25 (.slice a n cap) (.int .i64 (k : Int))).run Tryd.prog w = .ok (.pointer (some p)) w) ∧ p.block < w.heap.size ∧ w.cell? p = some (.int .u8 (f k : Nat)) := by
  rcases h with rfl | ⟨b, o, rfl, h1, h2⟩
  · omega
  · refine ⟨⟨b, o + k, none⟩, fun w => ?_, h1, h2 k hk⟩
    have h0 : (0 : Int) ≤ k := by omega
    have h1 : (k : Int) < n := by omega
    go_simp
/-- Bytes among the arguments of a call. -/
def ArgB (w : World) (v : Value) (n : Nat) (f : Nat → Nat) : Prop := ∃ (a : Option Addr) (cap : Nat), v = .slice a n cap ∧ n ≤ cap ∧ (a = none → cap = 0) ∧ RdB w a n f
theorem ArgB.below {w w' : World} {v : Value} {n : Nat} {f : Nat → Nat} (h : ArgB w v n f) (hb : Below w.heap.size w w') : ArgB w' v n f := by
  obtain ⟨a, cap, h1, h2, h3, h4⟩ := h
  exact ⟨a, cap, h1, h2, h3, h4.below hb⟩
/-- Bytes as cells. -/
def p8 (f : Nat → Nat) (n : Nat) : List Value := (List.range n).map fun j => .int .u8 (f j : Nat)
theorem p8_len (f : Nat → Nat) (n : Nat) : (p8 f n).length = n := by simp [p8]
theorem p8_at (f : Nat → Nat) (n j : Nat) (h : j < n) : (p8 f n)[j]? = some (.int .u8 (f j : Nat)) := by simp [p8, h]
theorem p8_one (f : Nat → Nat) (n : Nat) : ∀ u ∈ p8 f n, u.oneCell' = true := fun u hu => by
  unfold p8 at hu
  rw [List.mem_map] at hu
  obtain ⟨j, -, rfl⟩ := hu
  rfl
theorem p8_congr {f g : Nat → Nat} {n : Nat} (h : ∀ j, j < n → f j = g j) : p8 f n = p8 g n := by
  unfold p8
  apply List.map_congr_left
  intro j hj
  rw [h j (by simpa using hj)]
theorem p8_next (f : Nat → Nat) (n : Nat) : p8 f n ++ [.int .u8 (f n : Nat)] = p8 f (n + 1) := by
  unfold p8
  rw [List.range_succ, List.map_append]
  rfl
theorem p8_snoc (f g : Nat → Nat) (n : Nat) (z : Int) (h : ∀ j, j < n → f j = g j) (hx : ((g n : Nat) : Int) = z) : p8 f n ++ [.int .u8 z] = p8 g (n + 1) := by
  rw [p8_congr h, ← hx, p8_next]
theorem p8_news {w : World} {a : Addr} {n : Nat} {f : Nat → Nat} (h : RdB w (some a) n f) : ∀ j u, (p8 f n)[j]? = some u → w.cell? (a.add j) = some u := fun j u hj => by
  have hj2 : j < n := by
    have := (List.getElem?_eq_some_iff.1 hj).1
    rwa [p8_len] at this
  rw [p8_at _ _ _ hj2] at hj
  cases hj
  rcases h with h | ⟨b, o, e, h1, h2⟩
  · omega
  · injection e with e
    subst e
    have h := h2 j hj2
    rw [Addr.add_lit]
    exact h
/-- Bytes of one's own. -/
def Own8 (base : Nat) (f : Nat → Nat) (n : Nat) (v : Value) (w : World) : Prop := w.ownsRow base 5 1 v n (p8 f n)
theorem own_rdb {w : World} {base n : Nat} {v : Value} {f : Nat → Nat} (h : w.ownsRow base 5 1 v n (p8 f n)) : ∃ a c, v = .slice a n c ∧ n ≤ c ∧ (a = none → c = 0) ∧ RdB w a n f := by
  rcases h.2 with ⟨h1, h2⟩ | ⟨g, cap, cur, h1, hb, hc, hnc, hm, hcs, ht⟩
  · subst h2
    exact ⟨none, 0, h1, Nat.le_refl _, fun _ => rfl, .inl rfl⟩
  · refine ⟨_, cap, h1, hnc, (fun h => nomatch h), .inr ⟨g, 0, rfl, (Array.getElem?_eq_some_iff.1 hc).1, fun j hj => ?_⟩⟩
    rw [Nat.zero_add, cell_of_row _ _ _ _ _ _ hc, ← p8_at f n j hj, ← ht]
    simp only [Nat.mul_one, List.getElem?_take, hj, if_true]
    simp
theorem own_arg {w : World} {base n : Nat} {v : Value} {f : Nat → Nat} (h : w.ownsRow base 5 1 v n (p8 f n)) : ArgB w v n f := by
  obtain ⟨a, c, h1, h2, h3, h4⟩ := own_rdb h
  exact ⟨a, c, h1, h2, h3, h4⟩
theorem info8 : (Tryd.prog.info? 5).map (fun i => (i.zero, i.size, i.bytes)) = some (some (.int .u8 0), 1, 1) := by kernel_rfl
theorem info_partsB {P : Program} {t : TypeId} {z : Value} {s b : Nat} (h : (P.info? t).map (fun i => (i.zero, i.size, i.bytes)) = some (some z, s, b)) : ∃ i, P.info? t = some i ∧ i.zero = some z ∧ i.size = s ∧ i.bytes = b := by
  cases hq : P.info? t with
  | none => rw [hq] at h; cases h
  | some i =>
    rw [hq] at h
    simp at h
    exact ⟨i, rfl, h.1, h.2.1, h.2.2⟩
/-- Bytes behind what is one's own. -/
theorem copy_own {w : World} {u v : Value} {k n base : Nat} {f g : Nat → Nat} (hu : w.ownsRow base 5 1 u k (p8 g k)) (hs : ∃ b c, u = .slice (some ⟨b, 0, none⟩) k c) (h : ArgB w v n f) (hn : ((k + n : Nat) : Int) ≤ 100000000) (hbs : base ≤ w.heap.size) (ty : TypeId) : ∃ v' w', (Builtin.append_ #[25, 25] ty #[u, v]).run Tryd.prog w = .ok v' w' ∧ w'.ownsRow base 5 1 v' (k + n) (p8 g k ++ p8 f n) ∧ (∃ b c, v' = .slice (some ⟨b, 0, none⟩) (k + n) c) ∧ w.grownBy w' u.ownBlock := by
  obtain ⟨i0, hi, hz0, hz1, hz2⟩ := info_partsB info8
  obtain ⟨a, cap, rfl, hc, hn0, hr⟩ := h
  cases a with
  | none =>
    have h0 := hn0 rfl
    subst h0
    obtain rfl : n = 0 := by omega
    refine ⟨_, _, run_append_owned_none (P := Tryd.prog) _ base 25 ty 5 i0 1 Tryd.underlying25 hi _ k _ hu, by simpa [p8] using hu, by simpa using hs, ⟨rfl, rfl, rfl, Nat.le_refl _, fun _ _ _ => rfl⟩⟩
  | some q =>
    obtain ⟨v', w', hr, hown, hg, hnil⟩ := run_append_own (P := Tryd.prog) (w := w) base 25 ty 5 i0 (.int .u8 0) 1 1 Tryd.underlying25 hi hz0 hz1 hz2 rfl (by decide) _ k _ hu q n cap (p8 f n) (by rw [p8_len, Nat.mul_one]) (p8_news hr) (p8_one f n) (by unfold maxLen; omega) (by omega) hbs
    refine ⟨v', w', hr, hown, ?_, hg⟩
    rcases hown.2 with ⟨h1, h2⟩ | ⟨g1, c1, cur, h1, -⟩
    · exfalso
      obtain ⟨b, c, rfl⟩ := hs
      have h3 : v' = .slice none 0 0 := by rw [h1]
      have h4 := (hnil.1 h3).1
      cases h4
    · exact ⟨g1, c1, h1⟩
/-- The bytes copied: onto an empty list just made. -/
theorem copied {w : World} {D : Nat} {v : Value} {n : Nat} {f : Nat → Nat} (hD : D < w.heap.size) (h : ArgB w v n f) (hn : n ≤ 140737488355328) : ∃ g c w', (Builtin.append_ #[25, 25] 25 #[.slice (some ⟨D, 0, none⟩) 0 0, v]).run Tryd.prog w = .ok (.slice (some ⟨g, 0, none⟩) n c) w' ∧ n ≤ c ∧ g < w'.heap.size ∧ (∀ j, j < n → w'.cell? ⟨g, 0 + j, none⟩ = some (.int .u8 (f j : Nat))) ∧ Below w.heap.size w w' := by
  obtain ⟨i0, hi, hz0, hz1, hz2⟩ := info_partsB info8
  obtain ⟨a, cap, rfl, hc, hn0, hr⟩ := h
  rcases Nat.eq_zero_or_pos n with rfl | h0
  · refine ⟨D, 0, w, ?_, Nat.le_refl _, hD, fun j hj => by omega, Below.refl _ _⟩
    cases a with
    | none =>
      obtain rfl := hn0 rfl
      simp [Builtin.append_, run_underlying Tryd.underlying25, sizeOf, typeInfo, hi, go_sem]
    | some q => simp [Builtin.append_, run_underlying Tryd.underlying25, sizeOf, typeInfo, hi, go_sem]
  · rcases hr with hr | ⟨b, o, rfl, hb, hcell⟩
    · omega
    · have hr := run_append_grow (P := Tryd.prog) (w := w) 25 25 5 i0 (.int .u8 0) Tryd.underlying25 hi hz0 ⟨D, 0, none⟩ 0 0 [] (by simp) (fun j v hj => by simp at hj) ⟨b, o, none⟩ n cap (p8 f n) (by rw [p8_len, hz1, Nat.mul_one]) (p8_news (.inr ⟨b, o, rfl, hb, hcell⟩)) (by omega) (by omega) (by rw [Nat.zero_add, nextslicecap_zero h0, hz2]; omega)
      rw [Nat.zero_add] at hr
      refine ⟨_, _, _, hr, ?_, by simp, fun j hj => ?_, (Below.refl _ _).drew.alloc (Nat.le_refl _) _⟩
      · exact grownCap_ge _ _ _ _
      · refine (cell_of_row _ _ _ _ _ _ (heap_alloc_new w.drew _)).trans ?_
        rw [Nat.zero_add, show ([] : List Value).toArray ++ (p8 f n).toArray = (p8 f n).toArray by simp, Array.getElem?_append_left (by rw [List.size_toArray, p8_len]; exact hj), List.getElem?_toArray]
        exact p8_at f n j hj
set_option maxRecDepth 100000 in
set_option maxHeartbeats 1000000 in
theorem from_0 (q : Addr) (cap : Nat) (w : World) : Calls Tryd.prog 8 #[.slice (some q) 0 cap] w fun e w' => e = .returned (.agg #[.int .u64 0, .int .u64 0, .int .u64 0, .int .u64 0]) ∧ Below w.heap.size w w' := by
  go_enter Tryd.func8, Tryd.ntmps8
  go_wp2
  refine wp_loop_rounds 1 ?_
  rw [rounds_succ]; go_wp2
  go_returns
  exact ⟨rfl, by go_grown⟩
theorem fromr_arg {v : Value} {n : Nat} {f : Nat → Nat} {w : World} (h : ArgB w v n f) (hf : ∀ j, f j < 256) (hn : n ≤ 140737488355328) : Calls Tryd.prog 8 #[v] w fun e w' => e = .returned (wv (fnum f n)) ∧ Below w.heap.size w w' := by
  obtain ⟨a, cap, rfl, hc, hn0, hr⟩ := h
  have z0 : wv (fnum f 0) = .agg #[.int .u64 0, .int .u64 0, .int .u64 0, .int .u64 0] := by kernel_rfl
  rcases Nat.eq_zero_or_pos n with rfl | h0
  · rw [z0]
    cases a with
    | none => obtain rfl := hn0 rfl; exact fromr_nil w
    | some q => exact from_0 q cap w
  · rcases hr with hr | ⟨b, o, rfl, hb, hcell⟩
    · omega
    · exact fromr_any b o n cap f (fun j _ => hf j) (by omega) w hb hcell
end Go.Proofs.YtmhgnlngcjckbaaDoor
namespace Go.Proofs.YtmhgnlngcjckbaaDoor
open Go.RowKit

theorem vd_ge (d : Nat → Nat) (k : Nat) : 65536 ^ k * d k ≤ vd d (k + 1) := by simp only [vd]; omega
/-- The highest digit that parts two numbers decides. -/
theorem less_top {a b : Nat → Nat} {k : Nat} (ha : ∀ j, j < k → a j < 65536) (_hb : ∀ j, j < k → b j < 65536) (h : a k < b k) : vd a (k + 1) < vd b (k + 1) := by
  have h1 := vd_lt ha
  simp only [vd]
  have h2 : 65536 ^ k * a k + 65536 ^ k ≤ 65536 ^ k * b k := by
    have := Nat.mul_le_mul_left (65536 ^ k) (show a k + 1 ≤ b k by omega)
    rwa [Nat.mul_add, Nat.mul_one] at this
  omega
theorem vd_same_above {a b : Nat → Nat} (k : Nat) : ∀ N, k ≤ N → (∀ j, k ≤ j → j < N → a j = b j) → vd a N + vd b k = vd b N + vd a k := by
  intro N hN h
  induction N with
  | zero => obtain rfl : k = 0 := by omega
            rfl
  | succ N ih =>
    by_cases e : k = N + 1
    · subst e; omega
    · have := ih (by omega) (fun j h1 h2 => h j h1 (by omega))
      simp only [vd]
      rw [h N (by omega) (by omega)]
      omega

set_option maxRecDepth 100000 in
set_option maxHeartbeats 4000000 in
theorem less_any (ba ca bb cb n m : Nat) (da db : Nat → Nat) (hn : (n : Int) ≤ 1000000) (hm : (m : Int) ≤ 1000000) (ha : ∀ j, j < n → da j < 65536) (hb : ∀ j, j < m → db j < 65536) (w : World) (hA : Dg w ba n da) (hB : Dg w bb m db) :
    Calls Tryd.prog 64 #[.slice (some ⟨ba, 0, none⟩) n ca, .slice (some ⟨bb, 0, none⟩) m cb] w fun e w' => e = .returned (.bool (decide (vd da n < vd db m))) ∧ w = w' := by
  have en := vd_pad da n (max n m) (by omega)
  have em := vd_pad db m (max n m) (by omega)
  rw [← en, ← em]
  clear en em
  have Pa : Hid (∀ j, pad da n j < 65536) := Lib.hid (fun j => by unfold pad; split; exact ha j (by omega); omega)
  have Pb : Hid (∀ j, pad db m j < 65536) := Lib.hid (fun j => by unfold pad; split; exact hb j (by omega); omega)
  have Ha := Lib.hid ha; clear ha
  have Hb := Lib.hid hb; clear hb
  have HA := Lib.hid hA; clear hA
  have HB := Lib.hid hB; clear hB
  have hn0 : (0 : Int) ≤ n := by omega
  have hm0 : (0 : Int) ≤ m := by omega
  obtain ⟨R, hR⟩ : ∃ R, decide (vd (pad da n) (max n m) < vd (pad db m) (max n m)) = R := ⟨_, rfl⟩
  rw [hR]
  have HR := Lib.hid hR; clear hR
  by_cases hnm : n < m
  · have hcmp : (n : Int) < (m : Int) := by omega
    obtain ⟨N, hN⟩ : ∃ N, max n m = N := ⟨_, rfl⟩
    have HN := Lib.hid hN; clear hN
    go_enter Tryd.func64, Tryd.ntmps64
    go_wp2
    go_loop [6] (fun i => ∃ k : Nat, k ≤ N ∧ i = .int .i64 ((k : Int) - 1) ∧ Hid (∀ j, k ≤ j → j < N → pad da n j = pad db m j)) (fun i => (intOf i + 1).toNat)
    case atStart => exact ⟨N, Nat.le_refl _, by have := HN.out; first | (rw [show N = m by omega]) | rfl, Lib.hid (fun j h1 h2 => by omega)⟩
    case round =>
      obtain ⟨k, hk, rfl, HE⟩ := hrel
      have hNb : N ≤ 1000000 := by have := HN.out; omega
      have hk1 : (k : Int) ≤ 1000000 := by omega
      rcases k with _ | k
      · go_wp2
        go_ret
        refine ⟨?_, rfl⟩
        rw [← HR.out, HN.out]
        have h := vd_same_above 0 N (Nat.zero_le _) (fun j _ h2 => HE.out j (Nat.zero_le _) h2)
        simp only [vd] at h
        rw [show decide (vd (pad da n) N < vd (pad db m) N) = false by rw [decide_eq_false_iff_not]; omega]
        rfl
      · have e1 : ((k + 1 : Nat) : Int) - 1 = (k : Int) := by omega
        rw [e1]
        have hk0 : (0 : Int) ≤ k := by omega
        have hk2 : (k : Int) ≤ 1000000 := by omega
        have hge : ∀ (x y : Nat), pad da n k = x → pad db m k = y → x ≠ y → R = decide (x < y) := fun x y hx hy hne => by
          rw [← HR.out, HN.out]
          have h := vd_same_above (k + 1) N (by omega) (fun j h1 h2 => HE.out j h1 h2)
          by_cases hlt : x < y
          · have := less_top (a := pad da n) (b := pad db m) (k := k) (fun j _ => Pa.out j) (fun j _ => Pb.out j) (by rw [hx, hy]; exact hlt)
            rw [decide_eq_true hlt, decide_eq_true (by omega)]
          · have := less_top (a := pad db m) (b := pad da n) (k := k) (fun j _ => Pb.out j) (fun j _ => Pa.out j) (by rw [hx, hy]; omega)
            rw [decide_eq_false hlt, decide_eq_false (by omega)]
        have HG := Lib.hid hge; clear hge e1
        by_cases h1 : k < n
        · by_cases h2 : k < m
          · have xa : w.cell? ⟨ba, k, none⟩ = some (.int .u64 (da k : Nat)) := HA.out.2 k (by omega)
            have hka : (k : Int) < (n : Int) := by omega
            have pa : pad da n k = da k := by unfold pad; rw [if_pos (by omega)]
            have xb : w.cell? ⟨bb, k, none⟩ = some (.int .u64 (db k : Nat)) := HB.out.2 k (by omega)
            have hkb : (k : Int) < (m : Int) := by omega
            have pb : pad db m k = db k := by unfold pad; rw [if_pos (by omega)]
            have PA := Lib.hid pa; clear pa
            have PB := Lib.hid pb; clear pb
            by_cases he : da k = db k
            · have hb1 : (((da k : Nat) : Int) == ((db k : Nat) : Int)) = true := by simp; omega
              have hb2 : (((da k : Nat) : Int) != ((db k : Nat) : Int)) = false := by simp; omega
              have HE2 := Lib.hid he; clear he
              go_wp2
              go_round
              case rel =>
                refine ⟨k, by omega, rfl, Lib.hid (fun j h1 h2 => ?_)⟩
                by_cases hj : j = k
                · subst hj; rw [PA.out, PB.out, HE2.out]
                · exact HE.out j (by omega) h2
              case measure => simp [intOf]
            · have hb1 : (((da k : Nat) : Int) == ((db k : Nat) : Int)) = false := by simp; omega
              have hb2 : (((da k : Nat) : Int) != ((db k : Nat) : Int)) = true := by simp; omega
              have hr := HG.out _ _ PA.out PB.out he
              have HRR := Lib.hid hr; clear hr he
              go_wp2
              go_ret
              refine ⟨?_, rfl⟩
              rw [HRR.out]
              try simp
          · have xa : w.cell? ⟨ba, k, none⟩ = some (.int .u64 (da k : Nat)) := HA.out.2 k (by omega)
            have hka : (k : Int) < (n : Int) := by omega
            have pa : pad da n k = da k := by unfold pad; rw [if_pos (by omega)]
            have hkb : ¬ (k : Int) < (m : Int) := by omega
            have pb : pad db m k = 0 := by unfold pad; rw [if_neg (by omega)]
            have PA := Lib.hid pa; clear pa
            have PB := Lib.hid pb; clear pb
            by_cases he : da k = 0
            · have hb1 : (((da k : Nat) : Int) == (0 : Int)) = true := by simp; omega
              have hb2 : (((da k : Nat) : Int) != (0 : Int)) = false := by simp; omega
              have HE2 := Lib.hid he; clear he
              go_wp2
              go_round
              case rel =>
                refine ⟨k, by omega, rfl, Lib.hid (fun j h1 h2 => ?_)⟩
                by_cases hj : j = k
                · subst hj; rw [PA.out, PB.out, HE2.out]
                · exact HE.out j (by omega) h2
              case measure => simp [intOf]
            · have hb1 : (((da k : Nat) : Int) == (0 : Int)) = false := by simp; omega
              have hb2 : (((da k : Nat) : Int) != (0 : Int)) = true := by simp; omega
              have hr := HG.out _ _ PA.out PB.out he
              have HRR := Lib.hid hr; clear hr he
              go_wp2
              go_ret
              refine ⟨?_, rfl⟩
              rw [HRR.out]
              try simp
        · have h2 : k < m := by have := HN.out; omega
          have hka : ¬ (k : Int) < (n : Int) := by omega
          have pa : pad da n k = 0 := by unfold pad; rw [if_neg (by omega)]
          have xb : w.cell? ⟨bb, k, none⟩ = some (.int .u64 (db k : Nat)) := HB.out.2 k (by omega)
          have hkb : (k : Int) < (m : Int) := by omega
          have pb : pad db m k = db k := by unfold pad; rw [if_pos (by omega)]
          have PA := Lib.hid pa; clear pa
          have PB := Lib.hid pb; clear pb
          by_cases he : 0 = db k
          · have hb1 : ((0 : Int) == ((db k : Nat) : Int)) = true := by simp; omega
            have hb2 : ((0 : Int) != ((db k : Nat) : Int)) = false := by simp; omega
            have HE2 := Lib.hid he; clear he
            go_wp2
            go_round
            case rel =>
              refine ⟨k, by omega, rfl, Lib.hid (fun j h1 h2 => ?_)⟩
              by_cases hj : j = k
              · subst hj; rw [PA.out, PB.out, HE2.out]
              · exact HE.out j (by omega) h2
            case measure => simp [intOf]
          · have hb1 : ((0 : Int) == ((db k : Nat) : Int)) = false := by simp; omega
            have hb2 : ((0 : Int) != ((db k : Nat) : Int)) = true := by simp; omega
            have hr := HG.out _ _ PA.out PB.out he
            have HRR := Lib.hid hr; clear hr he
            go_wp2
            go_ret
            refine ⟨?_, rfl⟩
            rw [HRR.out]
            try simp
  · have hcmp : ¬ (n : Int) < (m : Int) := by omega
    obtain ⟨N, hN⟩ : ∃ N, max n m = N := ⟨_, rfl⟩
    have HN := Lib.hid hN; clear hN
    go_enter Tryd.func64, Tryd.ntmps64
    go_wp2
    go_loop [6] (fun i => ∃ k : Nat, k ≤ N ∧ i = .int .i64 ((k : Int) - 1) ∧ Hid (∀ j, k ≤ j → j < N → pad da n j = pad db m j)) (fun i => (intOf i + 1).toNat)
    case atStart => exact ⟨N, Nat.le_refl _, by have := HN.out; first | (rw [show N = n by omega]) | rfl, Lib.hid (fun j h1 h2 => by omega)⟩
    case round =>
      obtain ⟨k, hk, rfl, HE⟩ := hrel
      have hNb : N ≤ 1000000 := by have := HN.out; omega
      have hk1 : (k : Int) ≤ 1000000 := by omega
      rcases k with _ | k
      · go_wp2
        go_ret
        refine ⟨?_, rfl⟩
        rw [← HR.out, HN.out]
        have h := vd_same_above 0 N (Nat.zero_le _) (fun j _ h2 => HE.out j (Nat.zero_le _) h2)
        simp only [vd] at h
        rw [show decide (vd (pad da n) N < vd (pad db m) N) = false by rw [decide_eq_false_iff_not]; omega]
        rfl
      · have e1 : ((k + 1 : Nat) : Int) - 1 = (k : Int) := by omega
        rw [e1]
        have hk0 : (0 : Int) ≤ k := by omega
        have hk2 : (k : Int) ≤ 1000000 := by omega
        have hge : ∀ (x y : Nat), pad da n k = x → pad db m k = y → x ≠ y → R = decide (x < y) := fun x y hx hy hne => by
          rw [← HR.out, HN.out]
          have h := vd_same_above (k + 1) N (by omega) (fun j h1 h2 => HE.out j h1 h2)
          by_cases hlt : x < y
          · have := less_top (a := pad da n) (b := pad db m) (k := k) (fun j _ => Pa.out j) (fun j _ => Pb.out j) (by rw [hx, hy]; exact hlt)
            rw [decide_eq_true hlt, decide_eq_true (by omega)]
          · have := less_top (a := pad db m) (b := pad da n) (k := k) (fun j _ => Pb.out j) (fun j _ => Pa.out j) (by rw [hx, hy]; omega)
            rw [decide_eq_false hlt, decide_eq_false (by omega)]
        have HG := Lib.hid hge; clear hge e1
        by_cases h1 : k < n
        · by_cases h2 : k < m
          · have xa : w.cell? ⟨ba, k, none⟩ = some (.int .u64 (da k : Nat)) := HA.out.2 k (by omega)
            have hka : (k : Int) < (n : Int) := by omega
            have pa : pad da n k = da k := by unfold pad; rw [if_pos (by omega)]
            have xb : w.cell? ⟨bb, k, none⟩ = some (.int .u64 (db k : Nat)) := HB.out.2 k (by omega)
            have hkb : (k : Int) < (m : Int) := by omega
            have pb : pad db m k = db k := by unfold pad; rw [if_pos (by omega)]
            have PA := Lib.hid pa; clear pa
            have PB := Lib.hid pb; clear pb
            by_cases he : da k = db k
            · have hb1 : (((da k : Nat) : Int) == ((db k : Nat) : Int)) = true := by simp; omega
              have hb2 : (((da k : Nat) : Int) != ((db k : Nat) : Int)) = false := by simp; omega
              have HE2 := Lib.hid he; clear he
              go_wp2
              go_round
              case rel =>
                refine ⟨k, by omega, rfl, Lib.hid (fun j h1 h2 => ?_)⟩
                by_cases hj : j = k
                · subst hj; rw [PA.out, PB.out, HE2.out]
                · exact HE.out j (by omega) h2
              case measure => simp [intOf]
            · have hb1 : (((da k : Nat) : Int) == ((db k : Nat) : Int)) = false := by simp; omega
              have hb2 : (((da k : Nat) : Int) != ((db k : Nat) : Int)) = true := by simp; omega
              have hr := HG.out _ _ PA.out PB.out he
              have HRR := Lib.hid hr; clear hr he
              go_wp2
              go_ret
              refine ⟨?_, rfl⟩
              rw [HRR.out]
              try simp
          · have xa : w.cell? ⟨ba, k, none⟩ = some (.int .u64 (da k : Nat)) := HA.out.2 k (by omega)
            have hka : (k : Int) < (n : Int) := by omega
            have pa : pad da n k = da k := by unfold pad; rw [if_pos (by omega)]
            have hkb : ¬ (k : Int) < (m : Int) := by omega
            have pb : pad db m k = 0 := by unfold pad; rw [if_neg (by omega)]
            have PA := Lib.hid pa; clear pa
            have PB := Lib.hid pb; clear pb
            by_cases he : da k = 0
            · have hb1 : (((da k : Nat) : Int) == (0 : Int)) = true := by simp; omega
              have hb2 : (((da k : Nat) : Int) != (0 : Int)) = false := by simp; omega
              have HE2 := Lib.hid he; clear he
              go_wp2
              go_round
              case rel =>
                refine ⟨k, by omega, rfl, Lib.hid (fun j h1 h2 => ?_)⟩
                by_cases hj : j = k
                · subst hj; rw [PA.out, PB.out, HE2.out]
                · exact HE.out j (by omega) h2
              case measure => simp [intOf]
            · have hb1 : (((da k : Nat) : Int) == (0 : Int)) = false := by simp; omega
              have hb2 : (((da k : Nat) : Int) != (0 : Int)) = true := by simp; omega
              have hr := HG.out _ _ PA.out PB.out he
              have HRR := Lib.hid hr; clear hr he
              go_wp2
              go_ret
              refine ⟨?_, rfl⟩
              rw [HRR.out]
              try simp
        · have h2 : k < m := by have := HN.out; omega
          have hka : ¬ (k : Int) < (n : Int) := by omega
          have pa : pad da n k = 0 := by unfold pad; rw [if_neg (by omega)]
          have xb : w.cell? ⟨bb, k, none⟩ = some (.int .u64 (db k : Nat)) := HB.out.2 k (by omega)
          have hkb : (k : Int) < (m : Int) := by omega
          have pb : pad db m k = db k := by unfold pad; rw [if_pos (by omega)]
          have PA := Lib.hid pa; clear pa
          have PB := Lib.hid pb; clear pb
          by_cases he : 0 = db k
          · have hb1 : ((0 : Int) == ((db k : Nat) : Int)) = true := by simp; omega
            have hb2 : ((0 : Int) != ((db k : Nat) : Int)) = false := by simp; omega
            have HE2 := Lib.hid he; clear he
            go_wp2
            go_round
            case rel =>
              refine ⟨k, by omega, rfl, Lib.hid (fun j h1 h2 => ?_)⟩
              by_cases hj : j = k
              · subst hj; rw [PA.out, PB.out, HE2.out]
              · exact HE.out j (by omega) h2
            case measure => simp [intOf]
          · have hb1 : ((0 : Int) == ((db k : Nat) : Int)) = false := by simp; omega
            have hb2 : ((0 : Int) != ((db k : Nat) : Int)) = true := by simp; omega
            have hr := HG.out _ _ PA.out PB.out he
            have HRR := Lib.hid hr; clear hr he
            go_wp2
            go_ret
            refine ⟨?_, rfl⟩
            rw [HRR.out]
            try simp
end Go.Proofs.YtmhgnlngcjckbaaDoor

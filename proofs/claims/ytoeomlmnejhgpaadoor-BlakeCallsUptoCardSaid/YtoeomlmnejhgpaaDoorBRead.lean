/- BLAKE2b: what read, roundsOf and joined come to. -/
import Derived.Test.YtoeomlmnejhgpaaDoorBNum
namespace Go.Proofs.YtoeomlmnejhgpaaDoor
open Go.RowKit

theorem szB (w : World) : (sizeOf (Tryd.prog.elem 22)).run Tryd.prog w = .ok 1 w := by kernel_rfl
theorem sl_lh {g o L cap l n : Nat} (h1 : l + n ≤ cap) (h2 : l < cap) (w : World) : (Instr.sliceAt 22 (.slice (some ⟨g, o, none⟩) L cap) (some (.int .i64 (l : Int))) (some (.int .i64 ((l : Int) + (n : Int)))) none).run Tryd.prog w = .ok (.slice (some ⟨g, o + l, none⟩) n (cap - l)) w := by
  rw [run_sliceAt_slice (P := Tryd.prog) (w := w) 22 _ _ _ _ (by kernel_rfl), run_slice_lh (P := Tryd.prog) w 22 (some ⟨g, o, none⟩) L cap (by kernel_rfl) .i64 .i64 _ _ (by omega) (by omega) (by omega), szB]
  simp only [Result.andThen, sliced]
  rw [Int.toNat_natCast, if_neg (by omega), show ((l : Int) + (n : Int)).toNat - l = n by omega]
  simp [Addr.add]
theorem sl_l {g o L cap l : Nat} (h1 : l ≤ L) (h2 : l < cap) (w : World) : (Instr.sliceAt 22 (.slice (some ⟨g, o, none⟩) L cap) (some (.int .i64 (l : Int))) none none).run Tryd.prog w = .ok (.slice (some ⟨g, o + l, none⟩) (L - l) (cap - l)) w := by
  rw [run_sliceAt_slice (P := Tryd.prog) (w := w) 22 _ _ _ _ (by kernel_rfl), run_slice_l (P := Tryd.prog) w 22 (some ⟨g, o, none⟩) L cap (by kernel_rfl) .i64 l (by omega) (by omega), szB]
  simp only [Result.andThen, sliced]
  rw [Int.toNat_natCast, if_neg (by omega)]
  simp [Addr.add]
theorem sl_h4 {g o L cap : Nat} (h1 : 4 ≤ cap) (w : World) : (Instr.sliceAt 22 (.slice (some ⟨g, o, none⟩) L cap) none (some (.int .i64 4)) none).run Tryd.prog w = .ok (.slice (some ⟨g, o, none⟩) 4 cap) w := by
  rw [run_sliceAt_slice (P := Tryd.prog) (w := w) 22 _ _ _ _ (by kernel_rfl), run_slice_h (P := Tryd.prog) w 22 (some ⟨g, o, none⟩) L cap (by kernel_rfl) .i64 4 (by omega) (by omega), szB]
  simp only [Result.andThen, sliced]
  rw [if_neg (by omega)]
  simp [Addr.add]
/-- The numbers that bytes begin with. -/
def nums (f : Nat → Nat) (j : Nat) : Int := ((n8 (fun i => f (8 * j + i)) 8 : Nat) : Int)
def rdD (f : Nat → Nat) (v : Nat → Int) (k j : Nat) : Int := if j < k then nums f j else v j
theorem rdD_next {f : Nat → Nat} {v : Nat → Int} {k : Nat} (i : Nat) : updI (rdD f v k) k (nums f k) i = rdD f v (k + 1) i := by
  unfold updI rdD
  by_cases e : i = k
  · subst e
    rw [if_pos rfl, if_pos (by omega)]
  · rw [if_neg e]
    by_cases e2 : i < k
    · rw [if_pos e2, if_pos (by omega)]
    · rw [if_neg e2, if_neg (by omega)]
theorem Bt.setc {V j : Nat} {w w' : World} (h : Bt V w w') (v : Value) : Bt V w (w'.setCell ⟨V, j, none⟩ v) :=
  ⟨h.os, h.tape, h.output, Nat.le_trans h.size (by simp), fun k hk hl => (heap_setCell_other _ _ _ _ hk).trans (h.block k hk hl)⟩
set_option maxRecDepth 100000 in
set_option maxHeartbeats 4000000 in
-- WHAT read COMES TO.
theorem read_any (T : TypeId) (B n g o L cap : Nat) (f : Nat → Nat) (v : Nat → Int) (hf : ∀ j, f j < 256) (hn : n ≤ 16) (h8 : 8 * n < L) (hL : L ≤ cap) (hg : g ≠ B) (w : World) (hB : w.heap[B]? = some (.cells (ar .u64 n v) T (0, 0))) (hgl : g < w.heap.size) (hr : ∀ j, j < L → w.cell? ⟨g, o + j, none⟩ = some (.int .u8 (f j : Nat))) :
    Calls Tryd.prog 71 #[.slice (some ⟨B, 0, none⟩) n n, .slice (some ⟨g, o, none⟩) L cap] w fun e w' => e = .returned (.slice (some ⟨g, o + 8 * n, none⟩) (L - 8 * n) (cap - 8 * n)) ∧ Bt B w w' ∧ w'.heap[B]? = some (.cells (ar .u64 n (nums f)) T (0, 0)) := by
  have HF := Lib.hid hf
  have HR := Lib.hid hr
  have H0 := Lib.hid (show Bt B w w ∧ w.heap[B]? = some (.cells (ar .u64 n (rdD f v 0)) T (0, 0)) from ⟨Bt.refl _ _, by rw [show rdD f v 0 = v from by funext j; unfold rdD; rw [if_neg (by omega)]]; exact hB⟩)
  have HN := Lib.hid (And.intro hn (And.intro h8 (And.intro hL (And.intro hg hgl))))
  obtain ⟨E, hE⟩ : ∃ E : Nat, 8 * (n : Int) = (E : Int) := ⟨8 * n, by omega⟩
  have hE2 : 8 * n = E := by omega
  have HE := Lib.hid (fun w => sl_l (g := g) (o := o) (L := L) (cap := cap) (l := E) (by omega) (by omega) w)
  have hEw : IntKind.i64.wrap (E : Int) = (E : Int) := by rw [IntKind.wrap_i64]; omega
  rw [hE2]
  clear hf hr hB hgl hg hL h8 hE2
  go_enter Tryd.func71, Tryd.ntmps71
  go_wp2_with fail
  go_loopw [8] (fun iv wr => ∃ k : Nat, k ≤ n ∧ iv = .int .i64 k ∧ Hid (Bt B w wr ∧ wr.heap[B]? = some (.cells (ar .u64 n (rdD f v k)) T (0, 0)))) (fun iv _ => n - (intOf iv).toNat)
  case atStart => exact ⟨0, by omega, rfl, H0⟩
  case round =>
    obtain ⟨k, hk, rfl, H⟩ := hrel
    clear H0
    have hk0 : (0 : Int) ≤ k := by omega
    by_cases hlt : k < n
    · have hlt' : (k : Int) < n := by omega
      have hN := HN.out
      obtain ⟨e, he⟩ : ∃ e : Nat, 8 * (k : Int) = (e : Int) := ⟨8 * k, by omega⟩
      have he0 : (0 : Int) ≤ e := by omega
      have hew : IntKind.i64.wrap (e : Int) = (e : Int) := by rw [IntKind.wrap_i64]; omega
      have hew2 : IntKind.i64.wrap ((e : Int) + 8) = (e : Int) + 8 := by rw [IntKind.wrap_i64]; omega
      have hsl := fun w => sl_lh (g := g) (o := o) (L := L) (cap := cap) (l := e) (n := 8) (by omega) (by omega) w
      have hsl2 : ∀ w, (Instr.sliceAt 22 (.slice (some ⟨g, o, none⟩) L cap) (some (.int .i64 (e : Int))) (some (.int .i64 ((e : Int) + 8))) none).run Tryd.prog w = .ok (.slice (some ⟨g, o + e, none⟩) 8 (cap - e)) w := hsl
      clear hsl
      obtain ⟨c2, hc2⟩ : ∃ c2, cap - e = c2 := ⟨_, rfl⟩
      rw [hc2] at hsl2
      have HC := Lib.hid (show ∀ j, j < 8 → wr.cell? ⟨g, (o + e) + j, none⟩ = some (.int .u8 (f (8 * k + j) : Nat)) from fun j hj => by
        rw [World.cell?_of_block (w := w) (a := ⟨g, (o + e) + j, none⟩) (H.out.1.block g hN.2.2.2.1 hN.2.2.2.2), Nat.add_assoc, show 8 * k + j = e + j by omega]
        exact HR.out (e + j) (by omega))
      have co : wr.cell? ⟨B, k, none⟩ = some (.int .u64 (rdD f v k k)) := (cell_of_row wr _ k _ _ _ H.out.2).trans (ar_at _ _ _ _ hlt)
      have fo := frozen_of_row wr B k _ _ H.out.2
      obtain ⟨og, hog⟩ : ∃ og, o + e = og := ⟨_, rfl⟩
      rw [hog] at hsl2 HC
      have HK := Lib.hid hlt
      clear hN hc2 hog
      go_wp2_with fail
      refine (number_any g og c2 (fun j => f (8 * k + j)) (fun j => HF.out _) wr HC.out).mono ?_
      rintro ee w5 ⟨rfl, rfl⟩
      rw [show ((n8 (fun j => f (8 * k + j)) 8 : Nat) : Int) = nums f k from rfl]
      go_wp2_with fail
      go_roundw
      case rel =>
        refine ⟨k + 1, by have := HK.out; omega, by go_num, Lib.hid ⟨H.out.1.setc _, ?_⟩⟩
        refine (heap_setCell_same _ _ _ _ _ _ H.out.2).trans ?_
        rw [ar_set _ _ _ _ _ HK.out]
        congr 2
        exact ar_congr (fun i _ => rdD_next i)
      case measure => have := HK.out; simp [intOf]; omega
    · obtain rfl : k = n := by omega
      have hlt' : ¬ (k : Int) < k := by omega
      have hse := HE.out
      have H2 := Lib.hid (show Bt B w wr ∧ wr.heap[B]? = some (.cells (ar .u64 k (nums f)) T (0, 0)) from ⟨H.out.1, by
        have h := H.out.2
        rw [show ar .u64 k (rdD f v k) = ar .u64 k (nums f) from ar_congr fun i hi => by unfold rdD; rw [if_pos hi]] at h
        exact h⟩)
      clear H hlt
      go_wp2_with fail
      go_ret
      exact ⟨rfl, H2.out⟩
/-- The first bytes, the highest first. -/
def r4 (f : Nat → Nat) : Nat → Nat
  | 0 => 0
  | d + 1 => r4 f d * 256 + f d
theorem r4_lt {f : Nat → Nat} (hf : ∀ j, f j < 256) : ∀ d, r4 f d < 256 ^ d
  | 0 => by simp [r4]
  | d + 1 => by
    have h1 := r4_lt hf d
    have h2 := hf d
    simp only [r4]
    rw [Nat.pow_succ]
    omega
set_option maxRecDepth 100000 in
set_option maxHeartbeats 2000000 in
-- WHAT roundsOf COMES TO.
theorem rounds_any (g o L cap : Nat) (f : Nat → Nat) (hf : ∀ j, f j < 256) (h4 : 4 ≤ L) (hL : L ≤ cap) (w : World) (hc : ∀ j, j < 4 → w.cell? ⟨g, o + j, none⟩ = some (.int .u8 (f j : Nat))) : Calls Tryd.prog 73 #[.slice (some ⟨g, o, none⟩) L cap] w fun e w' => e = .returned (.int .u32 (r4 f 4 : Nat)) ∧ w = w' := by
  have HF := Lib.hid hf; clear hf
  have HC := Lib.hid hc; clear hc
  have hsl := fun w => sl_h4 (g := g) (o := o) (L := L) (cap := cap) (by omega) w
  clear h4 hL
  go_enter Tryd.func73, Tryd.ntmps73
  go_wp2_with fail
  go_loopw [3, 9] (fun ov iv wr => ∃ k : Nat, k ≤ 4 ∧ iv = .int .i64 k ∧ ov = .int .u32 (r4 f k : Nat) ∧ w = wr) (fun _ iv _ => 4 - (intOf iv).toNat)
  case atStart => exact ⟨0, by omega, rfl, rfl, rfl⟩
  case round =>
    obtain ⟨k, hk, rfl, rfl, rfl⟩ := hrel
    have hk0 : (0 : Int) ≤ k := by omega
    by_cases hlt : k < 4
    · have hlt' : (k : Int) < 4 := by omega
      have ck := HC.out k hlt
      obtain ⟨x, hx⟩ : ∃ x, f k = x := ⟨_, rfl⟩
      have hxl : x < 256 := by rw [← hx]; exact HF.out k
      obtain ⟨u, hu⟩ : ∃ u, r4 f k = u := ⟨_, rfl⟩
      have hul : u < 16777216 := by
        have h1 := r4_lt HF.out k
        have h2 : (256 : Nat) ^ k ≤ 256 ^ 3 := Nat.pow_le_pow_right (by omega) (by omega)
        rw [hu] at h1
        omega
      have hwu : IntKind.u32.wrap ((u : Int) * 2 ^ 8) = ((u * 256 : Nat) : Int) := by rw [IntKind.wrap_u32]; omega
      have hwu2 : IntKind.u32.wrap ((u : Int) * 256) = ((u * 256 : Nat) : Int) := by rw [IntKind.wrap_u32]; omega
      have hcx : IntKind.u32.wrap (x : Int) = (x : Int) := by rw [IntKind.wrap_u32]; omega
      have hor : bits .or .u32 ((u * 256 : Nat) : Int) (x : Int) = ((u * 256 + x : Nat) : Int) := by
        rw [or_u32 _ _ (by omega) (by omega)]
        have := Nat.two_pow_add_eq_or_of_lt (b := x) (i := 8) (by omega) u
        rw [Nat.mul_comm u, ← this]
      have HN := Lib.hid (show r4 f (k + 1) = u * 256 + x from by show r4 f k * 256 + f k = _; rw [hu, hx])
      rw [hx] at ck
      rw [hu]
      have hx0 : (0 : Int) ≤ x := by omega
      have HK := Lib.hid hlt
      obtain ⟨U, hU⟩ : ∃ U, u * 256 = U := ⟨_, rfl⟩
      rw [hU] at hwu hwu2 hor HN
      have HOR := Lib.hid hor
      clear hx hu hul hxl hU hor hk hlt
      go_wp2_with fail
      rw [HOR.out]
      go_roundw
      case rel => exact ⟨k + 1, by have := HK.out; omega, by go_num, by rw [HN.out], trivial⟩
      case measure => simp [intOf]; omega
    · obtain rfl : k = 4 := by omega
      have hlt' : ¬ ((4 : Nat) : Int) < 4 := by omega
      go_wp2_with fail
      go_ret
      exact ⟨rfl, rfl⟩
end Go.Proofs.YtoeomlmnejhgpaaDoor

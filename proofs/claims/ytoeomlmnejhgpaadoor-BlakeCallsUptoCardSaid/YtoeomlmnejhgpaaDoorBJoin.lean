/- BLAKE2b: the bytes of eight numbers; what joined comes to. -/
import Derived.Test.YtoeomlmnejhgpaaDoorBRead
namespace Go.Proofs.YtoeomlmnejhgpaaDoor
open Go.RowKit
/-- The bytes of eight numbers. -/
def jb (h : Nat → Int) (i : Nat) : Nat := (h (i / 8)).toNat / 2 ^ (8 * (i % 8)) % 256
theorem jb_lt (h : Nat → Int) (i : Nat) : jb h i < 256 := Nat.mod_lt _ (by omega)
def jd (h : Nat → Int) (k i : Nat) : Nat := if i < k then jb h i else 0
theorem jb_at {h : Nat → Int} {k q r s x : Nat} (hq : k / 8 = q) (hr : k % 8 = r) (hs : 8 * r = s) (hx : h q = (x : Int)) : IntKind.u8.wrap ((x : Int) / 2 ^ s) = ((jb h k : Nat) : Int) := by
  rw [IntKind.wrap_u8]
  unfold jb
  rw [hq, hr, hs, hx, Int.toNat_natCast]
  have e : (x : Int) / 2 ^ s = ((x / 2 ^ s : Nat) : Int) := by simp
  rw [e]
  omega
theorem madeCells8_at (k j : Nat) (h : j < k) : (madeCells (Value.int .u8 0).cells (k * 1)).toList[j]? = some (Value.int .u8 ((0 : Nat) : Int)) := by
  simp [madeCells, Value.cells, h, Nat.mod_one]
/-- The worlds of joined. -/
structure CJ (w : World) (h : Nat → Int) (k : Nat) (wx : World) : Prop where
  old : Below w.heap.size w wx
  r0 : wx.heap[w.heap.size]? = some (.cells (ar .u64 8 h) 54 (0, 0))
  lt : w.heap.size + 1 < wx.heap.size
  out : ∀ j, j < 64 → wx.cell? ⟨w.heap.size + 1, j, none⟩ = some (.int .u8 (jd h k j : Nat)) ∧ wx.frozen? ⟨w.heap.size + 1, j, none⟩ = false
theorem CJ.set {w wx : World} {h : Nat → Int} {k : Nat} (c : CJ w h k wx) (hk : k < 64) : CJ w h (k + 1) (wx.setCell ⟨w.heap.size + 1, k, none⟩ (.int .u8 (jb h k : Nat))) := by
  refine ⟨c.old.setCell (by show w.heap.size ≤ w.heap.size + 1; omega) _, (heap_setCell_other _ _ _ _ (by show w.heap.size ≠ w.heap.size + 1; omega)).trans c.r0, by simpa using c.lt, fun j hj => ⟨?_, by rw [World.frozen?_setCell]; exact (c.out j hj).2⟩⟩
  by_cases e : j = k
  · subst e
    rw [World.cell?_setCell_same _ _ _ (c.out j hj).1]
    unfold jd
    rw [if_pos (by omega)]
  · rw [World.cell?_setCell_other _ _ _ _ (by intro e2; injection e2 with _ e3; exact e e3.symm), (c.out j hj).1]
    unfold jd
    by_cases e2 : j < k
    · rw [if_pos e2, if_pos (by omega)]
    · rw [if_neg e2, if_neg (by omega)]
set_option maxRecDepth 100000 in
set_option maxHeartbeats 2000000 in
-- WHAT joined COMES TO.
theorem joined_any (h : Nat → Int) (hb : ∀ j, 0 ≤ h j ∧ h j < 18446744073709551616) (w : World) : Calls Tryd.prog 72 #[.agg (ar .u64 8 h)] w fun e w' => ∃ v, e = .returned v ∧ ArgB w' v 64 (jb h) ∧ (∃ g, v = .slice (some ⟨g, 0, none⟩) 64 64) ∧ Below w.heap.size w w' := by
  obtain ⟨i0, hi, hz0, hz1, hz2⟩ := info_partsB info8
  have HB := Lib.hid hb; clear hb
  go_enter Tryd.func72, Tryd.ntmps72
  go_wp2_with (at_make; refine wpList_make_full _ rfl _ _ 22 rfl w.heap.size 5 i0 (.int .u8 0) 1 Tryd.underlying22 hi hz0 hz1 .i64 .i64 _ _ 64 rfl rfl rfl rfl (by rw [hz2]; omega) (by unfold maxLen; omega) (by simp) ?_; intro w0 hown0 hgrow0)
  have H0 := Lib.hid (show CJ w h 0 w0 from by
    have hb0 : Below (w.heap.size + 1) (w.alloc (.cells (ar .u64 8 h) 54)) w0 := (Below.refl _ _).grown hgrow0 (by simp) (fun k hk => by cases hk)
    have hlt := (hown0.lt _ rfl).2
    rw [World.size_alloc] at hlt
    refine ⟨(show Below w.heap.size w (w.alloc (.cells (ar .u64 8 h) 54)) from by go_grown).trans (hb0.mono (by omega)), (hb0.block _ (by omega)).trans (heap_alloc_new _ _), hlt, fun j hj => ?_⟩
    have hc := hown0.cellAt j (by omega)
    have hf := hown0.frozenAt j
    rw [World.size_alloc] at hc hf
    refine ⟨hc.trans ?_, hf⟩
    unfold jd
    rw [if_neg (by omega)]
    have e : ∀ j : Fin 64, (madeCells (Value.int IntKind.u8 0).cells (64 * 1)).toList[(j : Nat)]? = some (.int .u8 ((0 : Nat) : Int)) := by
      intro j
      exact madeCells8_at 64 j j.2
    exact e ⟨j, hj⟩)
  clear hown0 hgrow0
  go_wp2_with fail
  go_loopw [8] (fun iv wr => ∃ k : Nat, k ≤ 64 ∧ iv = .int .i64 k ∧ Hid (CJ w h k wr)) (fun iv _ => 64 - (intOf iv).toNat)
  case atStart => exact ⟨0, by omega, rfl, H0⟩
  case round =>
    obtain ⟨k, hk, rfl, H⟩ := hrel
    clear H0
    have hk0 : (0 : Int) ≤ k := by omega
    by_cases hlt : k < 64
    · obtain ⟨q, hq⟩ : ∃ q : Nat, (k : Int) / 8 = (q : Int) := ⟨k / 8, by omega⟩
      obtain ⟨r, hr⟩ : ∃ r : Nat, (k : Int) % 8 = (r : Int) := ⟨k % 8, by omega⟩
      obtain ⟨s, hs⟩ : ∃ s : Nat, 8 * (r : Int) = (s : Int) := ⟨8 * r, by omega⟩
      have hq0 : (0 : Int) ≤ q := by omega
      have hq1 : (q : Int) < 8 := by omega
      have hr0 : (0 : Int) ≤ r := by omega
      have hr8 : (r : Int) < 8 := by omega
      have hs0 : (0 : Int) ≤ s := by omega
      have hs1 : (s : Int) < 64 := by omega
      have hlt' : (k : Int) < 64 := by omega
      have hb := HB.out q
      obtain ⟨x, hx⟩ := Int.eq_ofNat_of_zero_le hb.1
      have hxl : (x : Int) < 18446744073709551616 := by rw [← hx]; exact hb.2
      have ci : wr.cell? ⟨w.heap.size, q, none⟩ = some (.int .u64 (x : Nat)) := ((cell_of_row wr _ q _ _ _ H.out.r0).trans (ar_at _ _ _ _ (by omega))).trans (by rw [hx])
      have co := (H.out.out k hlt).1
      have fo := (H.out.out k hlt).2
      have hv : IntKind.u8.wrap ((x : Int) / 2 ^ s) = ((jb h k : Nat) : Int) := jb_at (r := r) (by omega) (by omega) (by omega) hx
      have hx0 : (0 : Int) ≤ x := by omega
      have HK := Lib.hid hlt
      clear hb hx
      go_wp2_with fail
      go_roundw
      case rel => exact ⟨k + 1, by have := HK.out; omega, by go_num, Lib.hid (H.out.set HK.out)⟩
      case measure => simp [intOf]; omega
    · obtain rfl : k = 64 := by omega
      have hlt' : ¬ ((64 : Nat) : Int) < 64 := by omega
      go_wp2_with fail
      go_ret
      refine ⟨_, rfl, ⟨some ⟨w.heap.size + 1, 0, none⟩, 64, rfl, Nat.le_refl _, (fun h => nomatch h), .inr ⟨_, 0, rfl, H.out.lt, fun j hj => ?_⟩⟩, ⟨_, rfl⟩, H.out.old⟩
      rw [Nat.zero_add, (H.out.out j hj).1]
      unfold jd
      rw [if_pos hj]
end Go.Proofs.YtoeomlmnejhgpaaDoor

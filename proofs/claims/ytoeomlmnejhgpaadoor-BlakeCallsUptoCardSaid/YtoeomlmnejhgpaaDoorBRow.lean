/- BLAKE2b: what the reference's Row comes to: a row of places. -/
import Derived.Test.YtoeomlmnejhgpaaDoorBRMix
import Derived.Deep.AppendLies
namespace Go.Proofs.YtoeomlmnejhgpaaDoor
open Go.RowKit

/-- The rows as the reference writes them. -/
def rowV (q : Nat) : Value := ([.string ⟨#[48, 49, 50, 51, 52, 53, 54, 55, 56, 57, 97, 98, 99, 100, 101, 102]⟩, .string ⟨#[101, 97, 52, 56, 57, 102, 100, 54, 49, 99, 48, 50, 98, 55, 53, 51]⟩, .string ⟨#[98, 56, 99, 48, 53, 50, 102, 100, 97, 101, 51, 54, 55, 49, 57, 52]⟩, .string ⟨#[55, 57, 51, 49, 100, 99, 98, 101, 50, 54, 53, 97, 52, 48, 102, 56]⟩, .string ⟨#[57, 48, 53, 55, 50, 52, 97, 102, 101, 49, 98, 99, 54, 56, 51, 100]⟩, .string ⟨#[50, 99, 54, 97, 48, 98, 56, 51, 52, 100, 55, 53, 102, 101, 49, 57]⟩, .string ⟨#[99, 53, 49, 102, 101, 100, 52, 97, 48, 55, 54, 51, 57, 50, 56, 98]⟩, .string ⟨#[100, 98, 55, 101, 99, 49, 51, 57, 53, 48, 102, 52, 56, 54, 50, 97]⟩, .string ⟨#[54, 102, 101, 57, 98, 51, 48, 56, 99, 50, 100, 55, 49, 52, 97, 53]⟩, .string ⟨#[97, 50, 56, 52, 55, 54, 49, 53, 102, 98, 57, 101, 51, 99, 100, 48]⟩] : List Value).getD q undef
def chr (q k : Nat) : Nat := if sig q k < 10 then 48 + sig q k else 87 + sig q k
def pi (f : Nat → Nat) (n : Nat) : List Value := (List.range n).map fun j => .int .i64 (f j : Nat)
theorem pi_len (f : Nat → Nat) (n : Nat) : (pi f n).length = n := by simp [pi]
theorem pi_at (f : Nat → Nat) (n j : Nat) (h : j < n) : (pi f n)[j]? = some (.int .i64 (f j : Nat)) := by simp [pi, h]
theorem pi_snoc (f : Nat → Nat) (n : Nat) (z : Int) (hx : ((f n : Nat) : Int) = z) : pi f n ++ [.int .i64 z] = pi f (n + 1) := by
  rw [← hx]
  unfold pi
  rw [List.range_succ, List.map_append]
  rfl
theorem infoI : (Tryd.prog.info? 3).map (fun i => (i.zero, i.size, i.bytes)) = some (some (.int .i64 0), 1, 8) := by kernel_rfl
theorem info_partsI {P : Program} {t : TypeId} {z : Value} {s b : Nat} (h : (P.info? t).map (fun i => (i.zero, i.size, i.bytes)) = some (some z, s, b)) : ∃ i, P.info? t = some i ∧ i.zero = some z ∧ i.size = s ∧ i.bytes = b := by
  cases hq : P.info? t with
  | none => rw [hq] at h; cases h
  | some i =>
    rw [hq] at h
    simp at h
    exact ⟨i, rfl, h.1, h.2.1, h.2.2⟩
theorem cell_alloc_old {w : World} {p : Addr} {v : Value} (h : w.cell? p = some v) (o : Obj) : (w.alloc o).cell? p = some v :=
  (World.cell?_of_block (w := w) (heap_alloc_old _ _ (World.block_lt_of_cell? w p h))).trans h
set_option maxRecDepth 100000 in
theorem index_str (q k : Nat) (hq : q < 10) (hk : k < 16) (w : World) : (Instr.index 9 (rowV q) (.int .i64 k)).run Tryd.prog w = .ok (.int .u8 (chr q k : Nat)) w := by
  have h1 : q = 0 ∨ q = 1 ∨ q = 2 ∨ q = 3 ∨ q = 4 ∨ q = 5 ∨ q = 6 ∨ q = 7 ∨ q = 8 ∨ q = 9 := by omega
  have h2 : k = 0 ∨ k = 1 ∨ k = 2 ∨ k = 3 ∨ k = 4 ∨ k = 5 ∨ k = 6 ∨ k = 7 ∨ k = 8 ∨ k = 9 ∨ k = 10 ∨ k = 11 ∨ k = 12 ∨ k = 13 ∨ k = 14 ∨ k = 15 := by omega
  rcases h1 with rfl | rfl | rfl | rfl | rfl | rfl | rfl | rfl | rfl | rfl <;> rcases h2 with rfl | rfl | rfl | rfl | rfl | rfl | rfl | rfl | rfl | rfl | rfl | rfl | rfl | rfl | rfl | rfl <;> exact (by kernel_rfl : _ = _)
set_option maxRecDepth 100000 in
set_option maxHeartbeats 4000000 in
-- WHAT THE REFERENCE's Row COMES TO.
theorem brow_any (i : Nat) (hi9 : i < 65536) (w : World) : Calls Tryd.prog 69 #[.int .i64 i] w fun e w' => ∃ g c, e = .returned (.slice (some ⟨g, 0, none⟩) 16 c) ∧ w'.ownsRow (w.heap.size + 1) 3 1 (.slice (some ⟨g, 0, none⟩) 16 c) 16 (pi (sig (i % 10)) 16) ∧ Below w.heap.size w w' := by
  obtain ⟨i0, hi, hz0, hz1, hz2⟩ := info_partsI infoI
  obtain ⟨q, hqe⟩ : ∃ q, i % 10 = q := ⟨_, rfl⟩
  rw [hqe]
  have hq : (i : Int) % 10 = (q : Int) := by omega
  have hq10 : q < 10 := by omega
  have hi0' : (0 : Int) ≤ i := by omega
  have hq0 : (0 : Int) ≤ q := by omega
  have hq1 : (q : Int) < 10 := by omega
  have HSL := Lib.hid (show ∀ k, k < 16 → sig q k < 16 from fun k hk => sig_lt q k hq10 hk)
  have HIS := Lib.hid (index_str q)
  have HQ10 := Lib.hid hq10
  clear hqe
  go_enter Tryd.func69, Tryd.ntmps69
  go_wp2_with fail
  go_loopw [4, 5] (fun v n wr => ∃ k g c : Nat, k ≤ 16 ∧ n = .int .i64 k ∧ v = .slice (some ⟨g, 0, none⟩) k c ∧ Hid (wr.ownsRow (w.heap.size + 1) 3 1 v k (pi (sig q) k) ∧ (∀ j, j < 10 → wr.cell? ⟨w.heap.size, j, none⟩ = some (rowV j)) ∧ Below w.heap.size w wr)) (fun _ n _ => 16 - (intOf n).toNat)
  case atStart =>
    refine ⟨0, _, _, by omega, rfl, rfl, Lib.hid ⟨?_, fun j hj => ?_, by go_grown⟩⟩
    · have h1 := World.ownsRow_made (base := w.heap.size + 1) (e := 3) (size := 1) (w.alloc (.cells #[.string ⟨#[48, 49, 50, 51, 52, 53, 54, 55, 56, 57, 97, 98, 99, 100, 101, 102]⟩, .string ⟨#[101, 97, 52, 56, 57, 102, 100, 54, 49, 99, 48, 50, 98, 55, 53, 51]⟩, .string ⟨#[98, 56, 99, 48, 53, 50, 102, 100, 97, 101, 51, 54, 55, 49, 57, 52]⟩, .string ⟨#[55, 57, 51, 49, 100, 99, 98, 101, 50, 54, 53, 97, 52, 48, 102, 56]⟩, .string ⟨#[57, 48, 53, 55, 50, 52, 97, 102, 101, 49, 98, 99, 54, 56, 51, 100]⟩, .string ⟨#[50, 99, 54, 97, 48, 98, 56, 51, 52, 100, 55, 53, 102, 101, 49, 57]⟩, .string ⟨#[99, 53, 49, 102, 101, 100, 52, 97, 48, 55, 54, 51, 57, 50, 56, 98]⟩, .string ⟨#[100, 98, 55, 101, 99, 49, 51, 57, 53, 48, 102, 52, 56, 54, 50, 97]⟩, .string ⟨#[54, 102, 101, 57, 98, 51, 48, 56, 99, 50, 100, 55, 49, 52, 97, 53]⟩, .string ⟨#[97, 50, 56, 52, 55, 54, 49, 53, 102, 98, 57, 101, 51, 99, 100, 48]⟩] 9)) #[] 0 (by simp) (by decide) (by simp)
      simpa [pi] using h1
    · refine (cell_of_row _ _ j _ _ _ (heap_alloc2_old _ _ _)).trans ?_
      have h2 : j = 0 ∨ j = 1 ∨ j = 2 ∨ j = 3 ∨ j = 4 ∨ j = 5 ∨ j = 6 ∨ j = 7 ∨ j = 8 ∨ j = 9 := by omega
      rcases h2 with rfl | rfl | rfl | rfl | rfl | rfl | rfl | rfl | rfl | rfl <;> rfl
  case round =>
    obtain ⟨k, g, c, hk, rfl, rfl, H⟩ := hrel
    have hk0 : (0 : Int) ≤ k := by omega
    have hbs : w.heap.size + 1 ≤ wr.heap.size := by have := (H.out.1.lt g rfl); omega
    by_cases hlt : k < 16
    · have hlt' : (k : Int) < 16 := by omega
      have cs := H.out.2.1 q HQ10.out
      have hix : ∀ w, (Instr.index 9 (rowV q) (.int .i64 k)).run Tryd.prog w = .ok (.int .u8 (chr q k : Nat)) w := fun w => HIS.out k HQ10.out hlt w
      have hsl := HSL.out k hlt
      obtain ⟨x, hx⟩ : ∃ x, chr q k = x := ⟨_, rfl⟩
      obtain ⟨S, hS⟩ : ∃ S, rowV q = S := ⟨_, rfl⟩
      rw [hx, hS] at hix
      rw [hS] at cs
      unfold chr at hx
      by_cases h10 : sig q k < 10
      · rw [if_pos h10] at hx
        have hg : ¬ (97 : Int) ≤ x := by omega
        have e1 : IntKind.u8.wrap ((x : Int) - 48) = ((sig q k : Nat) : Int) := by rw [IntKind.wrap_u8]; omega
        have hs0 : (0 : Int) ≤ ((sig q k : Nat) : Int) := by omega
        have hs1 : ((sig q k : Nat) : Int) < 16 := by omega
        have e2 : IntKind.i64.wrap ((sig q k : Nat) : Int) = ((sig q k : Nat) : Int) := by rw [IntKind.wrap_i64]; omega
        have HSG := Lib.hid (show ((sig q k : Nat) : Int) = ((sig q k : Nat) : Int) from rfl)
        clear hx hS
        go_wp2_with (at_builtin; refine wpList_append_lies _ rfl _ _ 107 rfl (w.heap.size + 1) 3 i0 (.int .i64 0) 1 8 Tryd.underlying107 hi hz0 hz1 hz2 rfl (by decide) _ (k) (pi (sig q) k) rfl (World.ownsRow.alloc H.out.1 _) ⟨wr.heap.size, 0, none⟩ 1 1 [.int .i64 ((sig q k : Nat) : Int)] rfl rfl (cell_one_new _ _ _) (by intro u hu; simp at hu; subst hu; rfl) (by omega) (by unfold maxLen; omega) (by omega) (by simp; omega) (wr.heap.size + 1) (by simp) ?_; intro g2 c2 w3 hown3 hgrow hat hlt3)
        have hb3 : Below w.heap.size w w3 := (H.out.2.2.alloc (by omega) _).grown hgrow (by simp; omega) (fun j hj => by have := (H.out.1.lt j hj).1; omega)
        have hs3 : ∀ j, j < 10 → w3.cell? ⟨w.heap.size, j, none⟩ = some (rowV j) := fun j hj => (hgrow.cell (cell_alloc_old (H.out.2.1 j hj) _) (fun e => by have h9 : w.heap.size + 1 ≤ w.heap.size := (H.out.1.lt _ e.symm).1; omega))
        rw [pi_snoc _ _ _ HSG.out] at hown3
        have HQ := Lib.hid (And.intro hown3 (And.intro hs3 hb3))
        clear hgrow hat hlt3 hown3 hb3 hs3 H
        go_roundw
        case rel => exact ⟨k + 1, g2, c2, by omega, by go_num, rfl, HQ⟩
        case measure => simp [intOf]; omega
      · rw [if_neg h10] at hx
        have hg : (97 : Int) ≤ x := by omega
        obtain ⟨z, hz⟩ : ∃ z : Nat, (x : Int) - 97 = (z : Int) := ⟨x - 97, by omega⟩
        have e1 : IntKind.u8.wrap (z : Int) = (z : Int) := by rw [IntKind.wrap_u8]; omega
        have hzz : (0 : Int) ≤ z := by omega
        have e2 : IntKind.i64.wrap (z : Int) = (z : Int) := by rw [IntKind.wrap_i64]; omega
        have e3 : (z : Int) + 10 = ((sig q k : Nat) : Int) := by omega
        have hs0 : (0 : Int) ≤ ((sig q k : Nat) : Int) := by omega
        have hs1 : ((sig q k : Nat) : Int) < 16 := by omega
        have e4 : IntKind.i64.wrap ((sig q k : Nat) : Int) = ((sig q k : Nat) : Int) := by rw [IntKind.wrap_i64]; omega
        have HSG := Lib.hid (show ((sig q k : Nat) : Int) = ((sig q k : Nat) : Int) from rfl)
        clear hx hS
        go_wp2_with (at_builtin; refine wpList_append_lies _ rfl _ _ 107 rfl (w.heap.size + 1) 3 i0 (.int .i64 0) 1 8 Tryd.underlying107 hi hz0 hz1 hz2 rfl (by decide) _ (k) (pi (sig q) k) rfl (World.ownsRow.alloc H.out.1 _) ⟨wr.heap.size, 0, none⟩ 1 1 [.int .i64 ((sig q k : Nat) : Int)] rfl rfl (cell_one_new _ _ _) (by intro u hu; simp at hu; subst hu; rfl) (by omega) (by unfold maxLen; omega) (by omega) (by simp; omega) (wr.heap.size + 1) (by simp) ?_; intro g2 c2 w3 hown3 hgrow hat hlt3)
        have hb3 : Below w.heap.size w w3 := (H.out.2.2.alloc (by omega) _).grown hgrow (by simp; omega) (fun j hj => by have := (H.out.1.lt j hj).1; omega)
        have hs3 : ∀ j, j < 10 → w3.cell? ⟨w.heap.size, j, none⟩ = some (rowV j) := fun j hj => (hgrow.cell (cell_alloc_old (H.out.2.1 j hj) _) (fun e => by have h9 : w.heap.size + 1 ≤ w.heap.size := (H.out.1.lt _ e.symm).1; omega))
        rw [pi_snoc _ _ _ HSG.out] at hown3
        have HQ := Lib.hid (And.intro hown3 (And.intro hs3 hb3))
        clear hgrow hat hlt3 hown3 hb3 hs3 H
        go_roundw
        case rel => exact ⟨k + 1, g2, c2, by omega, by go_num, rfl, HQ⟩
        case measure => simp [intOf]; omega
    · obtain rfl : k = 16 := by omega
      have hlt' : ¬ ((16 : Nat) : Int) < 16 := by omega
      go_wp2_with fail
      go_ret
      exact ⟨g, c, rfl, H.out.1, H.out.2.2⟩
end Go.Proofs.YtoeomlmnejhgpaaDoor

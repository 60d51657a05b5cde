/- The reference of layer 3: Up, and the constants of all rounds. -/
import Derived.Test.YtcmpnnfnkcmpcaaDoorKMove
import Derived.Deep.AppendLies
namespace Go.Proofs.YtcmpnnfnkcmpcaaDoor
open Go.RowKit

set_option maxRecDepth 100000 in
-- WHAT Up COMES TO.
theorem up_any (x : Int) (k : Nat) (hk : k < 4294967296) (w : World) : Calls Tryd.prog 42 #[.int .u64 x, .int .i64 k] w fun e w' => e = .returned (.int .u64 (rul k x)) ∧ w' = w := by
  unfold rul
  have hm : k % 64 < 64 := Nat.mod_lt _ (by decide)
  obtain ⟨s, hs⟩ : ∃ s, k % 64 = s := ⟨_, rfl⟩
  rw [hs] at hm ⊢
  have hk0 : (0 : Int) ≤ k := by omega
  have e1 : (k : Int) % 64 = (s : Int) := by omega
  have e2 : (k : Int).tmod 64 = (s : Int) := by rw [Int.tmod_eq_emod_of_nonneg hk0]; exact e1
  have hs0 : (0 : Int) ≤ s := by omega
  have hs1 : (s : Int) < 64 := by omega
  have hws : IntKind.u64.wrap (s : Int) = (s : Int) := by rw [IntKind.wrap_u64]; omega
  obtain ⟨q, hq⟩ : ∃ q : Nat, (64 : Int) - (s : Int) = (q : Int) := ⟨64 - s, by omega⟩
  have hq2 : 64 - s = q := by omega
  have hwq : IntKind.u64.wrap (q : Int) = (q : Int) := by rw [IntKind.wrap_u64]; omega
  have hq0 : (0 : Int) ≤ q := by omega
  have hq1 : (q : Int) ≤ 64 := by omega
  have HQ := Lib.hid hq2
  clear hs hm hk hq2
  go_enter Tryd.func42, Tryd.ntmps42
  go_wp2
  go_ret
  rw [HQ.out]
  exact ⟨rfl, rfl⟩
def rT (n : Nat) : Nat := [1, 2, 4, 8, 16, 32, 64, 128, 113, 226, 181, 27, 54, 108, 216, 193, 243, 151, 95, 190, 13, 26, 52, 104, 208, 209, 211, 215, 223, 207, 239, 175, 47, 94, 188, 9, 18, 36, 72, 144, 81, 162, 53, 106, 212, 217, 195, 247, 159, 79, 158, 77, 154, 69, 138, 101, 202, 229, 187, 7, 14, 28, 56, 112, 224, 177, 19, 38, 76, 152, 65, 130, 117, 234, 165, 59, 118, 236, 169, 35, 70, 140, 105, 210, 213, 219, 199, 255, 143, 111, 222, 205, 235, 167, 63, 126, 252, 137, 99, 198, 253, 139, 103, 206, 237, 171, 39, 78, 156, 73, 146, 85, 170, 37, 74, 148, 89, 178, 21, 42, 84, 168, 33, 66, 132, 121, 242, 149, 91, 182, 29, 58, 116, 232, 161, 51, 102, 204, 233, 163, 55, 110, 220, 201, 227, 183, 31, 62, 124, 248, 129, 115, 230, 189, 11, 22, 44, 88, 176, 17, 34, 68, 136, 97, 194, 245, 155, 71, 142].getD n 0
def cT (i j : Nat) : Int := (([[0, 1, 1, 1, 1, 1, 1, 1], [0, 0, 2, 2, 130, 32898, 32898, 32898], [0, 0, 2, 10, 138, 32906, 32906, 9223372036854808714], [0, 0, 0, 0, 0, 32768, 2147516416, 9223372039002292224], [0, 1, 3, 11, 139, 32907, 32907, 32907], [0, 1, 1, 1, 1, 1, 2147483649, 2147483649], [0, 1, 1, 1, 129, 32897, 2147516545, 9223372039002292353], [0, 1, 1, 9, 9, 32777, 32777, 9223372036854808585], [0, 0, 2, 10, 138, 138, 138, 138], [0, 0, 0, 8, 136, 136, 136, 136], [0, 1, 1, 9, 9, 32777, 2147516425, 2147516425], [0, 0, 2, 10, 10, 10, 2147483658, 2147483658], [0, 1, 3, 11, 139, 32907, 2147516555, 2147516555], [0, 1, 3, 11, 139, 139, 139, 9223372036854775947], [0, 1, 1, 9, 137, 32905, 32905, 9223372036854808713], [0, 1, 3, 3, 3, 32771, 32771, 9223372036854808579], [0, 0, 2, 2, 2, 32770, 32770, 9223372036854808578], [0, 0, 0, 0, 128, 128, 128, 9223372036854775936], [0, 0, 2, 10, 10, 32778, 32778, 32778], [0, 0, 2, 10, 10, 10, 2147483658, 9223372039002259466], [0, 1, 1, 1, 129, 32897, 2147516545, 9223372039002292353], [0, 0, 0, 0, 128, 32896, 32896, 9223372036854808704], [0, 1, 1, 1, 1, 1, 2147483649, 2147483649], [0, 0, 0, 8, 8, 32776, 2147516424, 9223372039002292232]] : List (List Int)).getD i []).getD j 0
theorem cT_7 : ∀ i, i < 24 → cT i 7 = rcT i := by decide +kernel
theorem cT_0 : ∀ i, i < 24 → cT i 0 = 0 := by decide +kernel
theorem rT_lt : ∀ n, n < 169 → rT n < 256 := by decide +kernel
theorem rT_next : ∀ n, n < 168 → (2 * rT n < 256 → rT (n + 1) = 2 * rT n) ∧ (256 ≤ 2 * rT n → bits .xor .i64 ((2 * rT n - 256 : Nat) : Int) 113 = ((rT (n + 1) : Nat) : Int)) := by decide +kernel
theorem cT_next : ∀ i, i < 24 → ∀ j, j < 7 → (rT (7 * i + j) % 2 = 1 → bits .xor .u64 (cT i j) (2 ^ (2 ^ j - 1)) = cT i (j + 1)) ∧ (rT (7 * i + j) % 2 = 0 → cT i (j + 1) = cT i j) := by decide +kernel
def pi64 (f : Nat → Int) (n : Nat) : List Value := (List.range n).map fun j => .int .u64 (f j)
theorem pi64_len (f : Nat → Int) (n : Nat) : (pi64 f n).length = n := by simp [pi64]
theorem pi64_at (f : Nat → Int) (n j : Nat) (h : j < n) : (pi64 f n)[j]? = some (.int .u64 (f j)) := by simp [pi64, h]
theorem pi64_snoc (f : Nat → Int) (n : Nat) (z : Int) (hx : f n = z) : pi64 f n ++ [.int .u64 z] = pi64 f (n + 1) := by
  rw [← hx]
  unfold pi64
  rw [List.range_succ, List.map_append]
  rfl
theorem infoU64 : (Tryd.prog.info? 34).map (fun i => (i.zero, i.size, i.bytes)) = some (some (.int .u64 0), 1, 8) := by kernel_rfl
theorem info_partsI {P : Program} {t : TypeId} {z : Value} {s b : Nat} (h : (P.info? t).map (fun i => (i.zero, i.size, i.bytes)) = some (some z, s, b)) : ∃ i, P.info? t = some i ∧ i.zero = some z ∧ i.size = s ∧ i.bytes = b := by
  cases hq : P.info? t with
  | none => rw [hq] at h; cases h
  | some i =>
    rw [hq] at h
    simp at h
    exact ⟨i, rfl, h.1, h.2.1, h.2.2⟩
set_option maxRecDepth 100000 in
set_option maxHeartbeats 4000000 in
-- WHAT Constants COMES TO.
theorem consts_any (w : World) : Calls Tryd.prog 28 #[] w fun e w' => ∃ g c, e = .returned (.slice (some ⟨g, 0, none⟩) 24 c) ∧ w'.ownsRow w.heap.size 34 1 (.slice (some ⟨g, 0, none⟩) 24 c) 24 (pi64 rcT 24) ∧ Below w.heap.size w w' := by
  obtain ⟨i0, hi, hz0, hz1, hz2⟩ := info_partsI infoU64
  go_enter Tryd.func28, Tryd.ntmps28
  go_wp2_with fail
  go_loopw [1, 2, 3] (fun v r i wr => ∃ k g q : Nat, k ≤ 24 ∧ i = .int .i64 k ∧ r = .int .i64 (rT (7 * k) : Nat) ∧ v = .slice (some ⟨g, 0, none⟩) k q ∧ Hid (wr.ownsRow w.heap.size 34 1 v k (pi64 rcT k) ∧ Below w.heap.size w wr)) (fun _ _ i _ => 24 - (intOf i).toNat)
  case atStart =>
    refine ⟨0, _, _, by omega, rfl, by kernel_rfl, rfl, Lib.hid ⟨?_, by go_grown⟩⟩
    have h1 := World.ownsRow_made (base := w.heap.size) (e := 34) (size := 1) w #[] 0 (by simp) (by decide) (by simp)
    simpa [pi64] using h1
  case round =>
    obtain ⟨k, g, q, hk, rfl, rfl, rfl, H⟩ := hrel
    have hk0 : (0 : Int) ≤ k := by omega
    by_cases hlt : k < 24
    · have hlt' : (k : Int) < 24 := by omega
      have HK := Lib.hid hlt
      go_wp2_with fail
      go_loopw [2, 4, 5] (fun r c j wi => ∃ n : Nat, n ≤ 7 ∧ j = .int .i64 n ∧ r = .int .i64 (rT (7 * k + n) : Nat) ∧ c = .int .u64 (cT k n) ∧ Hid (wi = wr)) (fun _ _ j _ => 7 - (intOf j).toNat)
      case atStart => exact ⟨0, by omega, rfl, rfl, by rw [cT_0 k HK.out], Lib.hid rfl⟩
      case round =>
        obtain ⟨n, hn, rfl, rfl, rfl, HW⟩ := hrel
        have hn0 : (0 : Int) ≤ n := by omega
        by_cases hn7 : n < 7
        · have hn7' : (n : Int) < 7 := by omega
          have HN := Lib.hid (And.intro (rT_lt (7 * k + n) (by omega)) (And.intro (rT_next (7 * k + n) (by omega)) (cT_next k hlt n hn7)))
          obtain ⟨r, hr⟩ : ∃ r, rT (7 * k + n) = r := ⟨_, rfl⟩
          obtain ⟨r', hr'⟩ : ∃ r, rT (7 * k + n + 1) = r := ⟨_, rfl⟩
          obtain ⟨c, hc⟩ : ∃ r, cT k n = r := ⟨_, rfl⟩
          obtain ⟨c', hc'⟩ : ∃ r, cT k (n + 1) = r := ⟨_, rfl⟩
          rw [hr, hr', hc, hc'] at HN
          have HR := Lib.hid (show rT (7 * k + (n + 1)) = r' ∧ cT k (n + 1) = c' from ⟨hr', hc'⟩)
          rw [hr, hc]
          clear hr hr' hc hc'
          have hr0 : (0 : Int) ≤ r := by omega
          have hr1 : (r : Int) < 256 := by have := HN.out.1; omega
          obtain ⟨d, hd⟩ : ∃ d : Nat, 2 * (r : Int) = (d : Int) := ⟨2 * r, by omega⟩
          have hd0 : (0 : Int) ≤ d := by omega
          have hd1 : (d : Int) < 512 := by omega
          obtain ⟨p, hp⟩ : ∃ p : Nat, (r : Int) % 2 = (p : Int) := ⟨r % 2, by omega⟩
          have hp2 : (r : Int).tmod 2 = (p : Int) := by rw [Int.tmod_eq_emod_of_nonneg hr0]; exact hp
          have hfin : IntKind.u64.wrap (2 ^ min (IntKind.u64.wrap (IntKind.u64.wrap (2 ^ n) - 1)).toNat 64) = (2 : Int) ^ (2 ^ n - 1) := by
            have hq : n = 0 ∨ n = 1 ∨ n = 2 ∨ n = 3 ∨ n = 4 ∨ n = 5 ∨ n = 6 := by omega
            rcases hq with rfl | rfl | rfl | rfl | rfl | rfl | rfl <;> decide +kernel
          have hwn : IntKind.u64.wrap (n : Int) = (n : Int) := by rw [IntKind.wrap_u64]; omega
          obtain ⟨y3, hy3⟩ : ∃ y : Int, 2 ^ (2 ^ n - 1) = y := ⟨_, rfl⟩
          rw [hy3] at HN hfin
          have HF := Lib.hid hfin
          clear hy3 hfin
          by_cases ho : p = 1
          · have ht : ((p : Int) == 1) = true := by simp [ho]
            have HCE := Lib.hid (show bits .xor .u64 c y3 = c' from HN.out.2.2.1 (by omega))
            by_cases hg : 256 ≤ d
            · have hg' : (256 : Int) ≤ d := by omega
              obtain ⟨m, hm⟩ : ∃ m : Nat, (d : Int) % 256 = (m : Int) := ⟨d - 256, by omega⟩
              have hm2 : (d : Int).tmod 256 = (m : Int) := by rw [Int.tmod_eq_emod_of_nonneg hd0]; exact hm
              have hxx : bits .xor .i64 (m : Int) 113 = (r' : Int) := by
                have h1 := HN.out.2.1.2 (by omega)
                rwa [show 2 * r - 256 = m by omega] at h1
              go_wp2_with fail
              go_roundw
              case rel => exact ⟨n + 1, by omega, by go_num, by rw [HR.out.1], by rw [HR.out.2, HF.out, HCE.out], HW⟩
              case measure => simp [intOf]; omega
            · have hg' : ¬ (256 : Int) ≤ d := by omega
              have hdr : (d : Int) = (r' : Int) := by have := HN.out.2.1.1 (by omega); omega
              go_wp2_with fail
              go_roundw
              case rel => exact ⟨n + 1, by omega, by go_num, by rw [HR.out.1], by rw [HR.out.2, HF.out, HCE.out], HW⟩
              case measure => simp [intOf]; omega
          · have ht : ((p : Int) == 1) = false := by simp; omega
            have hce : c' = c := HN.out.2.2.2 (by omega)
            subst hce
            by_cases hg : 256 ≤ d
            · have hg' : (256 : Int) ≤ d := by omega
              obtain ⟨m, hm⟩ : ∃ m : Nat, (d : Int) % 256 = (m : Int) := ⟨d - 256, by omega⟩
              have hm2 : (d : Int).tmod 256 = (m : Int) := by rw [Int.tmod_eq_emod_of_nonneg hd0]; exact hm
              have hxx : bits .xor .i64 (m : Int) 113 = (r' : Int) := by
                have h1 := HN.out.2.1.2 (by omega)
                rwa [show 2 * r - 256 = m by omega] at h1
              go_wp2_with fail
              go_roundw
              case rel => exact ⟨n + 1, by omega, by go_num, by rw [HR.out.1], by rw [HR.out.2], HW⟩
              case measure => simp [intOf]; omega
            · have hg' : ¬ (256 : Int) ≤ d := by omega
              have hdr : (d : Int) = (r' : Int) := by have := HN.out.2.1.1 (by omega); omega
              go_wp2_with fail
              go_roundw
              case rel => exact ⟨n + 1, by omega, by go_num, by rw [HR.out.1], by rw [HR.out.2], HW⟩
              case measure => simp [intOf]; omega
        · obtain rfl : n = 7 := by omega
          obtain rfl := HW.out
          have hbs : w.heap.size ≤ wr.heap.size := H.out.2.size
          have hc7 := cT_7 k HK.out
          rw [hc7]
          obtain ⟨c, hc⟩ : ∃ c, rcT k = c := ⟨_, rfl⟩
          rw [hc]
          obtain ⟨r, hr⟩ : ∃ r, rT (7 * k + 7) = r := ⟨_, rfl⟩
          rw [hr]
          have HR := Lib.hid (show rT (7 * (k + 1)) = r from hr)
          have HC := Lib.hid hc
          clear hc7 hc hr HW
          go_wp2_with (at_builtin; refine wpList_append_lies _ rfl _ _ 50 rfl w.heap.size 34 i0 (.int .u64 0) 1 8 Tryd.underlying50 hi hz0 hz1 hz2 rfl (by decide) _ k (pi64 rcT k) rfl (World.ownsRow.alloc H.out.1 _) ⟨wr.heap.size, 0, none⟩ 1 1 [.int .u64 c] rfl rfl (cell_one_new _ _ _) (by intro u hu; simp at hu; subst hu; rfl) (by omega) (by unfold maxLen; omega) (by omega) (by simp; omega) (wr.heap.size + 1) (by simp) ?_; intro g2 c2 w3 hown3 hgrow hat hlt3)
          have hb3 : Below w.heap.size w w3 := (H.out.2.alloc (by omega) _).grown hgrow (by simp; omega) (fun j hj => (H.out.1.lt j hj).1)
          rw [pi64_snoc rcT k c HC.out] at hown3
          have HQ := Lib.hid (And.intro hown3 hb3)
          clear hgrow hat hlt3 hown3 hb3 H
          go_roundw
          case rel => exact ⟨k + 1, g2, c2, by omega, by go_num, by rw [HR.out], rfl, HQ⟩
          case measure => simp [intOf]; omega
    · obtain rfl : k = 24 := by omega
      go_wp2_with fail
      go_ret
      exact ⟨g, q, rfl, H.out⟩
end Go.Proofs.YtcmpnnfnkcmpcaaDoor

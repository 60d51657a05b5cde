/- A few bytes put behind a list of one's own: what append comes to. -/
import Derived.Test.YtaopmcpihdcaiaaBStr
namespace Go.Proofs.Ytaopmcpihdcaiaa
open Go.RowKit

/-- Some bytes behind k others. -/
def putL (g : Nat → Nat) (k : Nat) (xs : List Nat) (j : Nat) : Nat := if j < k then g j else xs.getD (j - k) 0
theorem p8_putL (g : Nat → Nat) (k : Nat) (xs : List Nat) : p8 g k ++ xs.map (fun x => .int .u8 (x : Nat)) = p8 (putL g k xs) (k + xs.length) := by
  unfold p8
  rw [List.range_add, List.map_append, List.map_map]
  congr 1
  · apply List.map_congr_left
    intro j hj
    unfold putL
    rw [if_pos (by simpa using hj)]
  · apply List.ext_getElem?
    intro i
    by_cases h : i < xs.length
    · have e1 : ¬ k + i < k := by omega
      have e2 : k + i - k = i := by omega
      simp [h, putL, e1, e2]
    · simp [h]
/-- The bytes of a literal, laid into a fresh block. -/
theorem app_ownV {base : Nat} {w : World} {v : Value} {k : Nat} {vs : List Value} (hO : w.ownsRow base 5 1 v k vs) (hbs : base ≤ w.heap.size) (xs : List Nat) (hk : k + xs.length ≤ 100000000) (h1 : 1 ≤ xs.length) :
    ∃ v' w', (Builtin.append_ #[22, 22] 22 #[v, .slice (some ⟨w.heap.size, 0, none⟩) xs.length xs.length]).run Try.prog (w.alloc (.cells (xs.map (fun x => Value.int .u8 (x : Nat))).toArray 5)) = .ok v' w' ∧ w'.ownsRow base 5 1 v' (k + xs.length) (vs ++ xs.map (fun x => Value.int .u8 (x : Nat))) ∧ (∃ b c, v' = .slice (some ⟨b, 0, none⟩) (k + xs.length) c) ∧ (w.alloc (.cells (xs.map (fun x => Value.int .u8 (x : Nat))).toArray 5)).grownBy w' v.ownBlock := by
  obtain ⟨i0, hi, hz0, hz1, hz2⟩ := info_partsB info8
  have ha : (w.alloc (.cells (xs.map (fun x => Value.int .u8 (x : Nat))).toArray 5)).ownsRow base 5 1 v k vs := World.ownsRow.alloc hO _
  obtain ⟨v', w', hr, hown, hg, hnil⟩ := run_append_own (P := Try.prog) (w := w.alloc (.cells (xs.map (fun x => Value.int .u8 (x : Nat))).toArray 5)) base 22 22 5 i0 (.int .u8 0) 1 1 Try.underlying22 hi hz0 hz1 hz2 rfl (by decide) v k _ ha ⟨w.heap.size, 0, none⟩ xs.length xs.length (xs.map (fun x => Value.int .u8 (x : Nat))) (by simp)
    (fun j u hj => by
      have := cell_of_row _ _ j _ _ _ (heap_alloc_new w (.cells (xs.map (fun x => Value.int .u8 (x : Nat))).toArray 5))
      rw [List.getElem?_toArray] at this
      have e : (⟨w.heap.size, 0, none⟩ : Addr).add j = ⟨w.heap.size, j, none⟩ := by cases j <;> simp [Addr.add]
      rw [e]
      exact this.trans hj)
    (fun u hu => by
      rw [List.mem_map] at hu
      obtain ⟨x, -, rfl⟩ := hu
      rfl) (by unfold maxLen; omega) (by omega) (by simp; omega)
  refine ⟨v', w', hr, hown, ?_, hg⟩
  rcases hown.2 with ⟨h2, h3⟩ | ⟨g1, c1, cur, h2, -⟩
  · have := (hnil.1 h2).2
    omega
  · exact ⟨g1, c1, h2⟩
theorem app_own {base : Nat} {w : World} {v : Value} {k : Nat} {g : Nat → Nat} (hO : Own8 base g k v w) (hbs : base ≤ w.heap.size) (xs : List Nat) (hk : k + xs.length ≤ 100000000) (h1 : 1 ≤ xs.length) :
    ∃ v' w', (Builtin.append_ #[22, 22] 22 #[v, .slice (some ⟨w.heap.size, 0, none⟩) xs.length xs.length]).run Try.prog (w.alloc (.cells (xs.map (fun x => Value.int .u8 (x : Nat))).toArray 5)) = .ok v' w' ∧ Own8 base (putL g k xs) (k + xs.length) v' w' ∧ (∃ b c, v' = .slice (some ⟨b, 0, none⟩) (k + xs.length) c) ∧ Below base w w' := by
  obtain ⟨v', w', hr, hown, hs, hg⟩ := app_ownV hO hbs xs hk h1
  rw [p8_putL] at hown
  exact ⟨v', w', hr, hown, hs, ((Below.refl base w).alloc hbs _).grown hg (by simp; omega) (fun j hj => (hO.lt j hj).1)⟩
end Go.Proofs.Ytaopmcpihdcaiaa

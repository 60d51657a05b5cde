/- RIPEMD-160: the reference's small calls. -/
import Derived.Test.YtnnbpofdnhnjlaaDoorRTab
namespace Go.Proofs.YtnnbpofdnhnjlaaDoor
open Go.RowKit

theorem andNot_u32 (c d : Int) : bits .and .u32 c (bits .xor .u32 IntKind.u32.max d) = bits .andNot .u32 c d := by
  have hm : BitVec.ofInt 32 IntKind.u32.max = BitVec.allOnes 32 := by decide
  have h : BitVec.ofInt 32 (bits .xor .u32 IntKind.u32.max d) = ~~~ BitVec.ofInt 32 d := by
    show BitVec.ofInt 32 (IntKind.u32.wrap ((BitVec.ofInt 32 IntKind.u32.max ^^^ BitVec.ofInt 32 d).toNat : Int)) = _
    rw [hm, BitVec.allOnes_xor, IntKind.wrap_u32]
    have hl := (~~~ BitVec.ofInt 32 d).isLt
    rw [show (((~~~ BitVec.ofInt 32 d).toNat : Int) % 4294967296) = (((~~~ BitVec.ofInt 32 d).toNat : Nat) : Int) by omega, BitVec.ofInt_natCast, BitVec.ofNat_toNat, BitVec.setWidth_eq]
  show IntKind.u32.wrap ((BitVec.ofInt 32 c &&& BitVec.ofInt 32 (bits .xor .u32 IntKind.u32.max d)).toNat : Int) = _
  rw [h]
  rfl
set_option maxRecDepth 100000 in
theorem rf_any (q : Nat) (hq : q ≤ 4) (b c d : Int) (w : World) : Calls Tryd.prog 62 #[.int .i64 q, .int .u32 b, .int .u32 c, .int .u32 d] w fun e w' => e = .returned (.int .u32 (rmx q b c d)) ∧ w' = w := by
  have h : q = 0 ∨ q = 1 ∨ q = 2 ∨ q = 3 ∨ q = 4 := by omega
  rcases h with rfl | rfl | rfl | rfl | rfl
  all_goals
    go_enter Tryd.func62, Tryd.ntmps62
    go_wp2
    try rw [andNot_u32]
    go_ret
    exact ⟨rfl, rfl⟩
set_option maxRecDepth 100000 in
theorem rup_any (x : Int) (s : Nat) (hs : s < 32) (hs0 : 0 < s) (w : World) : Calls Tryd.prog 61 #[.int .u32 x, .int .i64 s] w fun e w' => e = .returned (.int .u32 (rup s x)) ∧ w' = w := by
  have hw : IntKind.u64.wrap (s : Int) = (s : Int) := by rw [IntKind.wrap_u64]; omega
  obtain ⟨t, ht⟩ : ∃ t : Nat, (32 : Int) - (s : Int) = (t : Int) := ⟨32 - s, by omega⟩
  have hw2 : IntKind.u64.wrap (t : Int) = (t : Int) := by rw [IntKind.wrap_u64]; omega
  have HT : Hid (32 - s = t) := Lib.hid (by omega)
  have h0 : (0 : Int) ≤ s := by omega
  have h1 : (s : Int) < 32 := by omega
  have h2 : (0 : Int) ≤ t := by omega
  have h3 : (t : Int) < 32 := by omega
  clear hs hs0
  go_enter Tryd.func61, Tryd.ntmps61
  go_wp2
  go_ret
  unfold rup
  rw [HT.out]
  exact ⟨rfl, rfl⟩
def chT (q p : Nat) : Nat := (([[98, 101, 102, 99, 53, 56, 55, 57, 98, 100, 101, 102, 54, 55, 57, 56], [99, 100, 98, 102, 54, 57, 57, 55, 99, 102, 98, 100, 55, 56, 55, 55], [100, 102, 101, 98, 55, 55, 54, 56, 100, 101, 100, 99, 53, 53, 54, 57], [101, 98, 99, 101, 56, 54, 53, 53, 102, 99, 102, 101, 57, 57, 56, 54], [102, 99, 100, 100, 57, 53, 56, 54, 101, 98, 99, 98, 56, 54, 53, 53]] : List (List Nat)).getD q []).getD p 0
theorem ch_is (q p : Nat) (hq : q < 5) (hp : p < 16) : (97 ≤ chT q p ∧ chT q p ≤ 102 ∧ turT q p + 97 = chT q p + 10) ∨ (48 ≤ chT q p ∧ chT q p ≤ 57 ∧ turT q p + 48 = chT q p) := by
  have : ∀ q : Fin 5, ∀ p : Fin 16, (97 ≤ chT q p ∧ chT q p ≤ 102 ∧ turT q p + 97 = chT q p + 10) ∨ (48 ≤ chT q p ∧ chT q p ≤ 57 ∧ turT q p + 48 = chT q p) := by decide
  exact this ⟨q, hq⟩ ⟨p, hp⟩
set_option maxRecDepth 100000 in
theorem turns_0 (p : Nat) (hp : p < 16) (w : World) : Calls Tryd.prog 63 #[.int .i64 0, .int .i64 p] w fun e w' => e = .returned (.int .i64 (turT 0 p : Nat)) ∧ Below w.heap.size w w' := by
  have hix : ∀ w, (Instr.index 9 (.string ⟨#[98, 101, 102, 99, 53, 56, 55, 57, 98, 100, 101, 102, 54, 55, 57, 56]⟩) (.int .i64 p)).run Tryd.prog w = .ok (.int .u8 (chT 0 p : Nat)) w := fun w => by
    have h : p = 0 ∨ p = 1 ∨ p = 2 ∨ p = 3 ∨ p = 4 ∨ p = 5 ∨ p = 6 ∨ p = 7 ∨ p = 8 ∨ p = 9 ∨ p = 10 ∨ p = 11 ∨ p = 12 ∨ p = 13 ∨ p = 14 ∨ p = 15 := by omega
    rcases h with rfl | rfl | rfl | rfl | rfl | rfl | rfl | rfl | rfl | rfl | rfl | rfl | rfl | rfl | rfl | rfl <;> rfl
  have hc := ch_is 0 p (by omega) hp
  obtain ⟨c, hce⟩ : ∃ c, chT 0 p = c := ⟨_, rfl⟩
  obtain ⟨t, hte⟩ : ∃ t, turT 0 p = t := ⟨_, rfl⟩
  rw [hce] at hix hc
  rw [hte] at hc ⊢
  clear hce hte
  rcases hc with ⟨h1, h2, h3⟩ | ⟨h1, h2, h3⟩
  · have h4 : (97 : Int) ≤ c := by omega
    have h5 : (c : Int) ≤ 102 := by omega
    go_enter Tryd.func63, Tryd.ntmps63
    go_wp2
    go_ret
    exact ⟨by go_num, by go_grown⟩
  · have h4 : (48 : Int) ≤ c := by omega
    have h5 : (c : Int) < 97 := by omega
    go_enter Tryd.func63, Tryd.ntmps63
    go_wp2
    go_ret
    exact ⟨by go_num, by go_grown⟩
set_option maxRecDepth 100000 in
theorem turns_1 (p : Nat) (hp : p < 16) (w : World) : Calls Tryd.prog 63 #[.int .i64 1, .int .i64 p] w fun e w' => e = .returned (.int .i64 (turT 1 p : Nat)) ∧ Below w.heap.size w w' := by
  have hix : ∀ w, (Instr.index 9 (.string ⟨#[99, 100, 98, 102, 54, 57, 57, 55, 99, 102, 98, 100, 55, 56, 55, 55]⟩) (.int .i64 p)).run Tryd.prog w = .ok (.int .u8 (chT 1 p : Nat)) w := fun w => by
    have h : p = 0 ∨ p = 1 ∨ p = 2 ∨ p = 3 ∨ p = 4 ∨ p = 5 ∨ p = 6 ∨ p = 7 ∨ p = 8 ∨ p = 9 ∨ p = 10 ∨ p = 11 ∨ p = 12 ∨ p = 13 ∨ p = 14 ∨ p = 15 := by omega
    rcases h with rfl | rfl | rfl | rfl | rfl | rfl | rfl | rfl | rfl | rfl | rfl | rfl | rfl | rfl | rfl | rfl <;> rfl
  have hc := ch_is 1 p (by omega) hp
  obtain ⟨c, hce⟩ : ∃ c, chT 1 p = c := ⟨_, rfl⟩
  obtain ⟨t, hte⟩ : ∃ t, turT 1 p = t := ⟨_, rfl⟩
  rw [hce] at hix hc
  rw [hte] at hc ⊢
  clear hce hte
  rcases hc with ⟨h1, h2, h3⟩ | ⟨h1, h2, h3⟩
  · have h4 : (97 : Int) ≤ c := by omega
    have h5 : (c : Int) ≤ 102 := by omega
    go_enter Tryd.func63, Tryd.ntmps63
    go_wp2
    go_ret
    exact ⟨by go_num, by go_grown⟩
  · have h4 : (48 : Int) ≤ c := by omega
    have h5 : (c : Int) < 97 := by omega
    go_enter Tryd.func63, Tryd.ntmps63
    go_wp2
    go_ret
    exact ⟨by go_num, by go_grown⟩
set_option maxRecDepth 100000 in
theorem turns_2 (p : Nat) (hp : p < 16) (w : World) : Calls Tryd.prog 63 #[.int .i64 2, .int .i64 p] w fun e w' => e = .returned (.int .i64 (turT 2 p : Nat)) ∧ Below w.heap.size w w' := by
  have hix : ∀ w, (Instr.index 9 (.string ⟨#[100, 102, 101, 98, 55, 55, 54, 56, 100, 101, 100, 99, 53, 53, 54, 57]⟩) (.int .i64 p)).run Tryd.prog w = .ok (.int .u8 (chT 2 p : Nat)) w := fun w => by
    have h : p = 0 ∨ p = 1 ∨ p = 2 ∨ p = 3 ∨ p = 4 ∨ p = 5 ∨ p = 6 ∨ p = 7 ∨ p = 8 ∨ p = 9 ∨ p = 10 ∨ p = 11 ∨ p = 12 ∨ p = 13 ∨ p = 14 ∨ p = 15 := by omega
    rcases h with rfl | rfl | rfl | rfl | rfl | rfl | rfl | rfl | rfl | rfl | rfl | rfl | rfl | rfl | rfl | rfl <;> rfl
  have hc := ch_is 2 p (by omega) hp
  obtain ⟨c, hce⟩ : ∃ c, chT 2 p = c := ⟨_, rfl⟩
  obtain ⟨t, hte⟩ : ∃ t, turT 2 p = t := ⟨_, rfl⟩
  rw [hce] at hix hc
  rw [hte] at hc ⊢
  clear hce hte
  rcases hc with ⟨h1, h2, h3⟩ | ⟨h1, h2, h3⟩
  · have h4 : (97 : Int) ≤ c := by omega
    have h5 : (c : Int) ≤ 102 := by omega
    go_enter Tryd.func63, Tryd.ntmps63
    go_wp2
    go_ret
    exact ⟨by go_num, by go_grown⟩
  · have h4 : (48 : Int) ≤ c := by omega
    have h5 : (c : Int) < 97 := by omega
    go_enter Tryd.func63, Tryd.ntmps63
    go_wp2
    go_ret
    exact ⟨by go_num, by go_grown⟩
set_option maxRecDepth 100000 in
theorem turns_3 (p : Nat) (hp : p < 16) (w : World) : Calls Tryd.prog 63 #[.int .i64 3, .int .i64 p] w fun e w' => e = .returned (.int .i64 (turT 3 p : Nat)) ∧ Below w.heap.size w w' := by
  have hix : ∀ w, (Instr.index 9 (.string ⟨#[101, 98, 99, 101, 56, 54, 53, 53, 102, 99, 102, 101, 57, 57, 56, 54]⟩) (.int .i64 p)).run Tryd.prog w = .ok (.int .u8 (chT 3 p : Nat)) w := fun w => by
    have h : p = 0 ∨ p = 1 ∨ p = 2 ∨ p = 3 ∨ p = 4 ∨ p = 5 ∨ p = 6 ∨ p = 7 ∨ p = 8 ∨ p = 9 ∨ p = 10 ∨ p = 11 ∨ p = 12 ∨ p = 13 ∨ p = 14 ∨ p = 15 := by omega
    rcases h with rfl | rfl | rfl | rfl | rfl | rfl | rfl | rfl | rfl | rfl | rfl | rfl | rfl | rfl | rfl | rfl <;> rfl
  have hc := ch_is 3 p (by omega) hp
  obtain ⟨c, hce⟩ : ∃ c, chT 3 p = c := ⟨_, rfl⟩
  obtain ⟨t, hte⟩ : ∃ t, turT 3 p = t := ⟨_, rfl⟩
  rw [hce] at hix hc
  rw [hte] at hc ⊢
  clear hce hte
  rcases hc with ⟨h1, h2, h3⟩ | ⟨h1, h2, h3⟩
  · have h4 : (97 : Int) ≤ c := by omega
    have h5 : (c : Int) ≤ 102 := by omega
    go_enter Tryd.func63, Tryd.ntmps63
    go_wp2
    go_ret
    exact ⟨by go_num, by go_grown⟩
  · have h4 : (48 : Int) ≤ c := by omega
    have h5 : (c : Int) < 97 := by omega
    go_enter Tryd.func63, Tryd.ntmps63
    go_wp2
    go_ret
    exact ⟨by go_num, by go_grown⟩
set_option maxRecDepth 100000 in
theorem turns_4 (p : Nat) (hp : p < 16) (w : World) : Calls Tryd.prog 63 #[.int .i64 4, .int .i64 p] w fun e w' => e = .returned (.int .i64 (turT 4 p : Nat)) ∧ Below w.heap.size w w' := by
  have hix : ∀ w, (Instr.index 9 (.string ⟨#[102, 99, 100, 100, 57, 53, 56, 54, 101, 98, 99, 98, 56, 54, 53, 53]⟩) (.int .i64 p)).run Tryd.prog w = .ok (.int .u8 (chT 4 p : Nat)) w := fun w => by
    have h : p = 0 ∨ p = 1 ∨ p = 2 ∨ p = 3 ∨ p = 4 ∨ p = 5 ∨ p = 6 ∨ p = 7 ∨ p = 8 ∨ p = 9 ∨ p = 10 ∨ p = 11 ∨ p = 12 ∨ p = 13 ∨ p = 14 ∨ p = 15 := by omega
    rcases h with rfl | rfl | rfl | rfl | rfl | rfl | rfl | rfl | rfl | rfl | rfl | rfl | rfl | rfl | rfl | rfl <;> rfl
  have hc := ch_is 4 p (by omega) hp
  obtain ⟨c, hce⟩ : ∃ c, chT 4 p = c := ⟨_, rfl⟩
  obtain ⟨t, hte⟩ : ∃ t, turT 4 p = t := ⟨_, rfl⟩
  rw [hce] at hix hc
  rw [hte] at hc ⊢
  clear hce hte
  rcases hc with ⟨h1, h2, h3⟩ | ⟨h1, h2, h3⟩
  · have h4 : (97 : Int) ≤ c := by omega
    have h5 : (c : Int) ≤ 102 := by omega
    go_enter Tryd.func63, Tryd.ntmps63
    go_wp2
    go_ret
    exact ⟨by go_num, by go_grown⟩
  · have h4 : (48 : Int) ≤ c := by omega
    have h5 : (c : Int) < 97 := by omega
    go_enter Tryd.func63, Tryd.ntmps63
    go_wp2
    go_ret
    exact ⟨by go_num, by go_grown⟩
theorem turns_any (q p : Nat) (hq : q < 5) (hp : p < 16) (w : World) : Calls Tryd.prog 63 #[.int .i64 q, .int .i64 p] w fun e w' => e = .returned (.int .i64 (turT q p : Nat)) ∧ Below w.heap.size w w' := by
  have h : q = 0 ∨ q = 1 ∨ q = 2 ∨ q = 3 ∨ q = 4 := by omega
  rcases h with rfl | rfl | rfl | rfl | rfl
  · exact turns_0 p hp w
  · exact turns_1 p hp w
  · exact turns_2 p hp w
  · exact turns_3 p hp w
  · exact turns_4 p hp w
end Go.Proofs.YtnnbpofdnhnjlaaDoor

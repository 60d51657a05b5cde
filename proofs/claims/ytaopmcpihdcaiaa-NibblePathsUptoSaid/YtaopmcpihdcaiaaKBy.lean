/- Bytes: read, of one's own. -/
import Derived.Test.YtaopmcpihdcaiaaProg
import Derived.WalkKit
import Derived.WalkSpells
import Derived.WalkLawsBesides
import Derived.LoopN
import Derived.Handy
import Derived.Outline
import Derived.RegionTactic
import Derived.BigRegion
import Derived.BigQuiet
import Derived.WalkSmall
import Derived.OwnWalk
import Derived.Lib.Hide
import Derived.Laws.Rows
import Derived.Laws.Tables
import Derived.Laws.CopyOwn
import Derived.Maps.AppendAt
import Derived.Deep.LoopGhost
import Derived.Laws.Bits64b
import Derived.Laws.OwnMore
import Derived.Deep.AppendLies
import Derived.IntWalk
import Derived.Test.YtaopmcpihdcaiaaMany
import Derived.Test.YtaopmcpihdcaiaaQ
import Derived.Laws.AppendOwnNone
import Derived.Lib.AppendZeros
import Derived.Lib.SliceRun
import Derived.StillTailTactics
import Derived.StillTactics
namespace Go.Proofs.Ytaopmcpihdcaiaa
open Go.RowKit

/-- A list, or none, of n bytes. -/
def RdB (w : World) (a : Option Addr) (n : Nat) (f : Nat → Nat) : Prop := n = 0 ∨ ∃ b o, a = some ⟨b, o, none⟩ ∧ b < w.heap.size ∧ ∀ j, j < n → w.cell? ⟨b, o + j, none⟩ = some (.int .u8 (f j : Nat))
theorem RdB.below {w w' : World} {a : Option Addr} {n : Nat} {f : Nat → Nat} (h : RdB w a n f) (hb : Below w.heap.size w w') : RdB w' a n f := by
  rcases h with h | ⟨b, o, h1, h2, h3⟩
  · exact .inl h
  · exact .inr ⟨b, o, h1, Nat.lt_of_lt_of_le h2 hb.size, fun j hj => (hb.cell (p := ⟨b, o + j, none⟩) h2).trans (h3 j hj)⟩
theorem RdB.at_ {w : World} {a : Option Addr} {n : Nat} {f : Nat → Nat} (h : RdB w a n f) (cap k : Nat) (hk : k < n) : ∃ p : Addr, (∀ w, (Instr.indexAt 22 (.slice a n cap) (.int .i64 (k : Int))).run Try.prog w = .ok (.pointer (some p)) w) ∧ p.block < w.heap.size ∧ w.cell? p = some (.int .u8 (f k : Nat)) := by
  rcases h with rfl | ⟨b, o, rfl, h1, h2⟩
  · omega
  · refine ⟨⟨b, o + k, none⟩, fun w => ?_, h1, h2 k hk⟩
    have h0 : (0 : Int) ≤ k := by omega
    have h1 : (k : Int) < n := by omega
    go_simp
/-- Bytes among the arguments of a call. -/
def ArgB (w : World) (v : Value) (n : Nat) (f : Nat → Nat) : Prop := ∃ (a : Option Addr) (cap : Nat), v = .slice a n cap ∧ n ≤ cap ∧ (a = none → cap = 0) ∧ RdB w a n f
theorem ArgB.below {w w' : World} {v : Value} {n : Nat} {f : Nat → Nat} (h : ArgB w v n f) (hb : Below w.heap.size w w') : ArgB w' v n f := by
  obtain ⟨a, cap, h1, h2, h3, h4⟩ := h
  exact ⟨a, cap, h1, h2, h3, h4.below hb⟩
/-- Bytes as cells. -/
def p8 (f : Nat → Nat) (n : Nat) : List Value := (List.range n).map fun j => .int .u8 (f j : Nat)
theorem p8_len (f : Nat → Nat) (n : Nat) : (p8 f n).length = n := by simp [p8]
theorem p8_at (f : Nat → Nat) (n j : Nat) (h : j < n) : (p8 f n)[j]? = some (.int .u8 (f j : Nat)) := by simp [p8, h]
theorem p8_one (f : Nat → Nat) (n : Nat) : ∀ u ∈ p8 f n, u.oneCell' = true := fun u hu => by
  unfold p8 at hu
  rw [List.mem_map] at hu
  obtain ⟨j, -, rfl⟩ := hu
  rfl
theorem p8_congr {f g : Nat → Nat} {n : Nat} (h : ∀ j, j < n → f j = g j) : p8 f n = p8 g n := by
  unfold p8
  apply List.map_congr_left
  intro j hj
  rw [h j (by simpa using hj)]
theorem p8_next (f : Nat → Nat) (n : Nat) : p8 f n ++ [.int .u8 (f n : Nat)] = p8 f (n + 1) := by
  unfold p8
  rw [List.range_succ, List.map_append]
  rfl
theorem p8_snoc (f g : Nat → Nat) (n : Nat) (z : Int) (h : ∀ j, j < n → f j = g j) (hx : ((g n : Nat) : Int) = z) : p8 f n ++ [.int .u8 z] = p8 g (n + 1) := by
  rw [p8_congr h, ← hx, p8_next]
theorem p8_news {w : World} {a : Addr} {n : Nat} {f : Nat → Nat} (h : RdB w (some a) n f) : ∀ j u, (p8 f n)[j]? = some u → w.cell? (a.add j) = some u := fun j u hj => by
  have hj2 : j < n := by
    have := (List.getElem?_eq_some_iff.1 hj).1
    rwa [p8_len] at this
  rw [p8_at _ _ _ hj2] at hj
  cases hj
  rcases h with h | ⟨b, o, e, h1, h2⟩
  · omega
  · injection e with e
    subst e
    have h := h2 j hj2
    cases j with
    | zero => simpa [Addr.add] using h
    | succ j => simpa [Addr.add] using h
/-- Bytes of one's own. -/
def Own8 (base : Nat) (f : Nat → Nat) (n : Nat) (v : Value) (w : World) : Prop := w.ownsRow base 5 1 v n (p8 f n)
theorem own_rdb {w : World} {base n : Nat} {v : Value} {f : Nat → Nat} (h : w.ownsRow base 5 1 v n (p8 f n)) : ∃ a c, v = .slice a n c ∧ n ≤ c ∧ (a = none → c = 0) ∧ RdB w a n f := by
  rcases h.2 with ⟨h1, h2⟩ | ⟨g, cap, cur, h1, hb, hc, hnc, hm, hcs, ht⟩
  · subst h2
    exact ⟨none, 0, h1, Nat.le_refl _, fun _ => rfl, .inl rfl⟩
  · refine ⟨_, cap, h1, hnc, (fun h => nomatch h), .inr ⟨g, 0, rfl, (Array.getElem?_eq_some_iff.1 hc).1, fun j hj => ?_⟩⟩
    rw [Nat.zero_add, cell_of_row _ _ _ _ _ _ hc, ← p8_at f n j hj, ← ht]
    simp only [Nat.mul_one, List.getElem?_take, hj, if_true]
    simp
theorem own_arg {w : World} {base n : Nat} {v : Value} {f : Nat → Nat} (h : w.ownsRow base 5 1 v n (p8 f n)) : ArgB w v n f := by
  obtain ⟨a, c, h1, h2, h3, h4⟩ := own_rdb h
  exact ⟨a, c, h1, h2, h3, h4⟩
theorem info8 : (Try.prog.info? 5).map (fun i => (i.zero, i.size, i.bytes)) = some (some (.int .u8 0), 1, 1) := by kernel_rfl
theorem info_partsB {P : Program} {t : TypeId} {z : Value} {s b : Nat} (h : (P.info? t).map (fun i => (i.zero, i.size, i.bytes)) = some (some z, s, b)) : ∃ i, P.info? t = some i ∧ i.zero = some z ∧ i.size = s ∧ i.bytes = b := by
  cases hq : P.info? t with
  | none => rw [hq] at h; cases h
  | some i =>
    rw [hq] at h
    simp at h
    exact ⟨i, rfl, h.1, h.2.1, h.2.2⟩
/-- Bytes behind what is one's own. -/
theorem copy_own {w : World} {u v : Value} {k n base : Nat} {f g : Nat → Nat} (hu : w.ownsRow base 5 1 u k (p8 g k)) (hs : ∃ b c, u = .slice (some ⟨b, 0, none⟩) k c) (h : ArgB w v n f) (hn : ((k + n : Nat) : Int) ≤ 100000000) (hbs : base ≤ w.heap.size) (ty : TypeId) : ∃ v' w', (Builtin.append_ #[22, 22] ty #[u, v]).run Try.prog w = .ok v' w' ∧ w'.ownsRow base 5 1 v' (k + n) (p8 g k ++ p8 f n) ∧ (∃ b c, v' = .slice (some ⟨b, 0, none⟩) (k + n) c) ∧ w.grownBy w' u.ownBlock := by
  obtain ⟨i0, hi, hz0, hz1, hz2⟩ := info_partsB info8
  obtain ⟨a, cap, rfl, hc, hn0, hr⟩ := h
  cases a with
  | none =>
    have h0 := hn0 rfl
    subst h0
    obtain rfl : n = 0 := by omega
    refine ⟨_, _, run_append_owned_none (P := Try.prog) _ base 22 ty 5 i0 1 Try.underlying22 hi _ k _ hu, by simpa [p8] using hu, by simpa using hs, ⟨rfl, rfl, rfl, Nat.le_refl _, fun _ _ _ => rfl⟩⟩
  | some q =>
    obtain ⟨v', w', hr, hown, hg, hnil⟩ := run_append_own (P := Try.prog) (w := w) base 22 ty 5 i0 (.int .u8 0) 1 1 Try.underlying22 hi hz0 hz1 hz2 rfl (by decide) _ k _ hu q n cap (p8 f n) (by rw [p8_len, Nat.mul_one]) (p8_news hr) (p8_one f n) (by unfold maxLen; omega) (by omega) hbs
    refine ⟨v', w', hr, hown, ?_, hg⟩
    rcases hown.2 with ⟨h1, h2⟩ | ⟨g1, c1, cur, h1, -⟩
    · exfalso
      obtain ⟨b, c, rfl⟩ := hs
      have h3 : v' = .slice none 0 0 := by rw [h1]
      have h4 := (hnil.1 h3).1
      cases h4
    · exact ⟨g1, c1, h1⟩
end Go.Proofs.Ytaopmcpihdcaiaa

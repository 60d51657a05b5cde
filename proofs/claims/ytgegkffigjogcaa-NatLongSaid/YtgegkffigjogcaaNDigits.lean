/- The reference's Digits: a number's parts as digits of 16 bits. -/
import Derived.Test.YtgegkffigjogcaaNRPlainR
import Derived.Test.YtgegkffigjogcaaSum
import Derived.StillTailTactics
import Derived.StillTactics
import Derived.Deep.RegionHeld3
import Derived.Shelf.Spec.TrailingZeros
namespace Go.Proofs.Ytgegkffigjogcaa
open Go.RowKit

/-- The digits of parts of 32 bits. -/
def dgf (f : Nat → Nat) (j : Nat) : Nat := if j % 2 = 0 then f (j / 2) % 65536 else f (j / 2) / 65536
theorem dgf_lt {f : Nat → Nat} {n : Nat} (h : ∀ j, j < n → f j < 4294967296) : ∀ j, j < 2 * n → dgf f j < 65536 := fun j hj => by
  unfold dgf
  have := h (j / 2) (by omega)
  split <;> omega
theorem dgf_vd (f : Nat → Nat) : ∀ n, vd (dgf f) (2 * n) = vb 4294967296 f n
  | 0 => rfl
  | n + 1 => by
    rw [show 2 * (n + 1) = 2 * n + 1 + 1 by omega]
    simp only [vd, vb]
    rw [dgf_vd f n]
    have e0 : dgf f (2 * n) = f n % 65536 := by
      unfold dgf; rw [if_pos (by omega), show 2 * n / 2 = n by omega]
    have e1 : dgf f (2 * n + 1) = f n / 65536 := by
      unfold dgf; rw [if_neg (by omega), show (2 * n + 1) / 2 = n by omega]
    rw [e0, e1, Nat.pow_succ, Nat.pow_mul, show (65536 : Nat) ^ 2 = 4294967296 by rfl, Nat.add_assoc]
    congr 1
    rw [Nat.mul_assoc, ← Nat.mul_add]
    congr 1
    omega
theorem dgf_snoc (f : Nat → Nat) (k : Nat) : dl (dgf f) (2 * k) ++ [.int .u64 ((f k % 65536 : Nat) : Int), .int .u64 ((f k / 65536 : Nat) : Int)] = dl (dgf f) (2 * k + 2) := by
  unfold dl
  rw [List.range_succ, List.range_succ, List.map_append, List.map_append, List.append_assoc]
  congr 1
  have e0 : dgf f (2 * k) = f k % 65536 := by
    unfold dgf; rw [if_pos (by omega), show 2 * k / 2 = k by omega]
  have e1 : dgf f (2 * k + 1) = f k / 65536 := by
    unfold dgf; rw [if_neg (by omega), show (2 * k + 1) / 2 = k by omega]
  simp only [List.map_cons, List.map_nil, e0, e1, List.cons_append, List.nil_append]
theorem and_u32_low16 (z : Nat) (h : z < 4294967296) : bits .and .u32 (z : Int) 65535 = ((z % 65536 : Nat) : Int) := by
  have := bits_and_u32_nat z 65535 h (by omega)
  rw [show z &&& 65535 = z % 65536 from Nat.and_two_pow_sub_one_eq_mod z 16] at this
  exact this
theorem bytes_new (w : World) (x y : Value) (t : TypeId) : ∀ j u, [x, y][j]? = some u → (w.alloc (.cells #[x, y] t)).cell? ((⟨w.heap.size, 0, none⟩ : Addr).add j) = some u := by
  intro j u hj
  match j, hj with
  | 0, hj => simp at hj; subst hj; rw [show (⟨w.heap.size, 0, none⟩ : Addr).add 0 = ⟨w.heap.size, 0, none⟩ from rfl, cell_of_row _ _ _ _ _ _ (heap_alloc_new _ _)]; rfl
  | 1, hj => simp at hj; subst hj; rw [show (⟨w.heap.size, 0, none⟩ : Addr).add 1 = ⟨w.heap.size, 1, none⟩ from rfl, cell_of_row _ _ _ _ _ _ (heap_alloc_new _ _)]; rfl
theorem two_u64 (x y : Nat) : ∀ u ∈ [Value.int .u64 (x : Int), .int .u64 (y : Int)], u.oneCell' = true := fun u hu => by
  simp only [List.mem_cons, List.not_mem_nil, or_false] at hu
  rcases hu with rfl | rfl <;> rfl
theorem dig_next {w wr w1 : World} {u v' X Y : Value} {k lo hi : Nat} {f : Nat → Nat} (h1 : wr.ownsRow w.heap.size 59 1 u (2 * k) (dl (dgf f) (2 * k))) (h2 : Below w.heap.size w wr) (hlo : f k % 65536 = lo) (hhi : f k / 65536 = hi)
    (hown' : w1.ownsRow w.heap.size 59 1 v' (2 * k + 2) (dl (dgf f) (2 * k) ++ [.int .u64 (lo : Int), .int .u64 (hi : Int)])) (hgrow : ((wr.alloc (.cells #[X, Y] 59)).drew).grownBy w1 u.ownBlock) :
    w1.ownsRow w.heap.size 59 1 v' (2 * (k + 1)) (dl (dgf f) (2 * (k + 1))) ∧ Below w.heap.size w w1 := by
  rw [← hlo, ← hhi, dgf_snoc] at hown'
  exact ⟨hown', (h2.drew.alloc h2.size _).grown hgrow (by have := h2.size; simp; omega) (fun j hj => (h1.lt j hj).1)⟩
theorem region_still {P : Program} {id : Nat} {Q : Exit → Act → World → Prop} {a : Act} {w : World} {l : List Oper} (n : Nat) (hm : P.follows .mixedOrders = true) (hB : Region.lexTailB .any l.toArray n = true)
    (h : wpStill P l.toArray w.drew (fun a' => wpList P l.toArray Q (l.drop n) a' w.drew) (l.take n) a) : (Code.region id l.toArray true).wp P Q a w := wp_region_still_tail n hm hB h
set_option maxRecDepth 100000 in
set_option maxHeartbeats 1000000 in
theorem ndigits_walk (a : Option Addr) (n cap : Nat) (f : Nat → Nat) (hn : (n : Int) ≤ 35184372088832) (hf : ∀ j, j < n → f j < 4294967296) (hn2 : n ≤ 100000) (w : World) (hP : RdA w a n f) :
    Calls Try.prog 47 #[.slice a n cap] w fun e w' => ∃ g c, e = .returned (.slice (some ⟨g, 0, none⟩) (2 * n) c) ∧ w'.ownsRow w.heap.size 59 1 (.slice (some ⟨g, 0, none⟩) (2 * n) c) (2 * n) (dl (dgf f) (2 * n)) ∧ Below w.heap.size w w' := by
  have HP := Lib.hid hP; clear hP
  have HF := Lib.hid hf; clear hf
  obtain ⟨i0, hi, hz0, hz1, hz2⟩ := info_parts info22
  go_enter Try.func47, Try.ntmps47
  go_wp2
  go_loopw [3, 4] (fun v i wr => ∃ k : Nat, k ≤ n ∧ i = .int .i64 k ∧ Hid (wr.ownsRow w.heap.size 59 1 v (2 * k) (dl (dgf f) (2 * k)) ∧ Below w.heap.size w wr ∧ ∃ g c, v = .slice (some ⟨g, 0, none⟩) (2 * k) c))
    (fun _ i _ => n - (intOf i).toNat)
  case atStart =>
    refine ⟨0, by omega, rfl, Lib.hid ⟨?_, by go_grown, _, _, rfl⟩⟩
    exact World.ownsRow_made (base := w.heap.size) (e := 59) (size := 1) w #[] 0 (by simp) (by decide) (by simp)
  case round =>
    obtain ⟨k, hk, rfl, H⟩ := hrel
    have hk0 : (0 : Int) ≤ k := by omega
    by_cases hlt : k < n
    · have hlt' : (k : Int) < n := by omega
      obtain ⟨p, hix, hpb, -, cp⟩ := HP.out.at_ cap k hlt
      have cp' : wr.cell? p = some (.int .u32 (f k : Nat)) := (H.out.2.1.cell hpb).trans cp
      have hfk := HF.out k hlt
      have hfi : ((f k : Nat) : Int) < 4294967296 := by omega
      have hf0 : (0 : Int) ≤ ((f k : Nat) : Int) := by omega
      obtain ⟨lo, hlo⟩ : ∃ lo, f k % 65536 = lo := ⟨_, rfl⟩
      obtain ⟨hi', hhi⟩ : ∃ hi, f k / 65536 = hi := ⟨_, rfl⟩
      have hand := and_u32_low16 (f k) hfk
      rw [hlo] at hand
      have hlo0 : (0 : Int) ≤ lo := by omega
      have hlo1 : (lo : Int) < 65536 := by omega
      have hhi0 : (0 : Int) ≤ hi' := by omega
      have hhi1 : (hi' : Int) < 65536 := by omega
      have hw1 : IntKind.u64.wrap (lo : Int) = lo := by rw [IntKind.wrap_u64]; omega
      have hw2 : IntKind.u64.wrap (hi' : Int) = hi' := by rw [IntKind.wrap_u64]; omega
      have hdv : ((f k : Nat) : Int) / 65536 = (hi' : Int) := by omega
      have HLH := Lib.hid (And.intro hlo hhi)
      have HPB := Lib.hid hpb
      clear hpb cp hfk hfi hf0 hlo hhi hlo0 hlo1 hhi0 hhi1
      go_wp2_with fail
      have hrow := H.out.1
      have hbel := Lib.hid H.out.2.1
      have hbas : w.heap.size ≤ wr.heap.size := H.out.2.1.size
      have hnb : u3.ownBlock ≠ some p.block := fun h => by
        have h1 := (H.out.1.lt _ h).1
        have h2 := HPB.out
        omega
      have HO := Lib.hid H.out.1
      clear H
      go_region_held3 (fun w' => w'.cell? p = some (.int .u32 (f k : Nat)))
        (first | go_keep | (rw [hgrow.cell_far _ (by have := HPB.out; simp; omega) (Ne.symm hnb)]; assumption))
        ((refine step_append_lies _ (by rfl) _ _ _ (by rfl) w.heap.size 59 i0 _ 1 8 Try.underlying56 hi hz0 hz1 hz2 rfl (by decide) u3 (2 * k) (dl (dgf f) (2 * k)) (by rfl) ((HO.out.alloc _).drew) ⟨wr.heap.size, 0, none⟩ 2 2 [.int .u64 (lo : Int), .int .u64 (hi' : Int)] (by rfl) (by rfl) (World.news_of_block (cs := #[.int .u64 (lo : Int), .int .u64 (hi' : Int)]) (t := 59) (fr := (0, 0)) (heap_alloc_new wr _)) (two_u64 lo hi') (by omega) (by unfold maxLen; omega) (by omega) (by simp; omega) (wr.heap.size + 1) (by simp) ?_; intro gg cap' w1 hown1 hgrow hat hlt))
      have HN0 := dig_next (f := f) (w := w) HO.out hbel.out HLH.out.1 HLH.out.2 hown1 hgrow
      have HN := Lib.hid (And.intro HN0.1 (And.intro HN0.2 (⟨gg, cap', rfl⟩ : ∃ g c, Value.slice (some ⟨gg, 0, none⟩) (2 * k + 2) cap' = .slice (some ⟨g, 0, none⟩) (2 * (k + 1)) c)))
      clear HN0
      clear hown1 hgrow hat hlt
      all_goals
        go_wp2
        go_roundw
        case rel => exact ⟨k + 1, by omega, by go_num, HN⟩
        case measure => simp [intOf]; omega
    · obtain rfl : k = n := by omega
      go_wp2
      go_ret
      obtain ⟨h1, h2, g, c, rfl⟩ := H.out
      exact ⟨g, c, rfl, h1, h2⟩
/-- At most N digits of 16 bits, their number V. -/
def DD (N V : Nat) (v : Value) (w : World) : Prop := ∃ b n cap d, n ≤ N ∧ v = .slice (some ⟨b, 0, none⟩) n cap ∧ Dg w b n d ∧ (∀ j, j < n → d j < 65536) ∧ vd d n = V
theorem DD.below {N V : Nat} {v : Value} {w w' : World} (h : DD N V v w) (hb : Below w.heap.size w w') : DD N V v w' := by
  obtain ⟨b, n, cap, d, h1, h2, h3, h4⟩ := h; exact ⟨b, n, cap, d, h1, h2, h3.below hb, h4⟩
theorem dd_of {w : World} {base g n cap : Nat} {d : Nat → Nat} (h : w.ownsRow base 59 1 (.slice (some ⟨g, 0, none⟩) n cap) n (dl d n)) (hd : ∀ j, j < n → d j < 65536) : DD n (vd d n) (.slice (some ⟨g, 0, none⟩) n cap) w := by
  rcases h.2 with ⟨h1, -⟩ | ⟨g2, cap2, cur, h1, -, hc, -, -, hcs, ht⟩
  · cases h1
  · injection h1 with h1 _ h4
    injection h1 with h1
    injection h1 with h1
    subst h1
    refine ⟨g, n, cap, d, Nat.le_refl _, rfl, ⟨(Array.getElem?_eq_some_iff.1 hc).1, fun j hj => ?_⟩, hd, rfl⟩
    rw [cell_of_row _ _ _ _ _ _ hc, ← dl_at d n j hj, ← ht]
    simp only [Nat.mul_one, List.getElem?_take, hj, if_true]
    simp
-- WHAT THE REFERENCE's Digits COMES TO.
theorem digits_rp {V k : Nat} {v : Value} {w : World} (hk : k ≤ 10000) (hV : V < 4294967296 ^ k) (h : RP V v w) : Calls Try.prog 47 #[v] w fun e w' => ∃ u, e = .returned u ∧ DD (2 * k) V u w' ∧ Below w.heap.size w w' := by
  obtain ⟨g, n, cap, f, rfl, hn, rfl, ht⟩ := h
  have hnk := (plain_len (P := 4294967296) (by omega) hn.lt ht).1 hV
  refine (ndigits_walk _ n cap f hn.few hn.lt (by omega) w hn.rd).mono ?_
  rintro e w' ⟨b, c, rfl, h1, h2⟩
  have h3 := dd_of h1 (dgf_lt hn.lt)
  rw [dgf_vd] at h3
  obtain ⟨b', n', c', d', q1, q2⟩ := h3
  exact ⟨_, rfl, ⟨b', n', c', d', by omega, q2⟩, h2⟩
end Go.Proofs.Ytgegkffigjogcaa

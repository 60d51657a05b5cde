/- What nat.Add and nat.Mul come to. -/
import Derived.Test.YtgegkffigjogcaaNApi
namespace Go.Proofs.Ytgegkffigjogcaa
open Go.RowKit

/-- The code of a sum. -/
def cdAdd (A B : Nat) : Nat := if cd2 A B = 0 then cdN (A + B) else cd2 A B
/-- The code of a product. -/
def cdMul (A B : Nat) : Nat := if cd2 A B = 0 then cdN (A * B) else cd2 A B
theorem Ans.err {c V : Nat} {w w' : World} (h : c ≠ 0) (hb : Below w.heap.size w w') : Ans c V w (.returned (.tuple #[.slice none 0 0, .int .i64 (c : Nat)])) w' := ⟨_, rfl, fun h0 => absurd h0 h, fun _ => rfl, hb⟩
theorem Ans.later {c V : Nat} {w w1 : World} {e : Ending} {w' : World} (h : Ans c V w1 e w') (hb : Below w.heap.size w w1) : Ans c V w e w' := by
  obtain ⟨v, h1, h2, h3, h4⟩ := h
  exact ⟨v, h1, h2, h3, hb.trans (h4.mono hb.size)⟩
theorem two_cells (w : World) (x y : Value) (T : TypeId) : (w.alloc (.cells #[x, y] T)).cell? ⟨w.heap.size, 0, none⟩ = some x ∧ (w.alloc (.cells #[x, y] T)).cell? ⟨w.heap.size, 1, none⟩ = some y := by
  constructor <;> rw [World.cell?_alloc_new] <;> rfl
/-- The row of a list of noughts into which another was copied. -/
theorem made_row {w : World} {base g L : Nat} (h : w.ownsRow base 32 1 (.slice (some ⟨g, 0, none⟩) L L) L (madeCells (Value.int .u32 0).cells (L * 1)).toList) : w.heap[g]? = some (.cells (madeCells (Value.int .u32 0).cells (L * 1)).toList.toArray 32 (0, 0)) := by
  obtain ⟨-, h1⟩ := h
  rcases h1 with ⟨h2, -⟩ | ⟨g2, cap, cur, h2, hg, hc, hnc, hm, hcs, ht⟩
  · cases h2
  · injection h2 with e1 e2 e3
    injection e1 with e1
    injection e1 with e1
    subst e1 e3
    rw [hc]
    congr 2
    rw [← ht, List.take_of_length_le (by simp [hcs])]
theorem splice_wr {w : World} {g n L : Nat} {f : Nat → Nat} (_hn : n ≤ L) (h : w.heap[g]? = some (.cells (splice (madeCells (Value.int .u32 0).cells (L * 1)).toList 0 (pl f n)).toArray 32 (0, 0))) : Wr w g 0 L (fun j => if j < n then f j else 0) := by
  have hlen : (madeCells (Value.int .u32 0).cells (L * 1)).toList.length = L := by simp [size_madeCells]
  refine ⟨(Array.getElem?_eq_some_iff.1 h).1, fun j hj => ⟨?_, frozen_of_row _ _ _ _ _ h⟩⟩
  rw [Nat.zero_add, cell_of_row _ _ _ _ _ _ h]
  simp only [List.getElem?_toArray, splice, List.take_zero, List.nil_append]
  by_cases e : j < n
  · rw [if_pos e, List.getElem?_append_left (by rw [pl_len]; exact e), pl_at _ _ _ e]
  · rw [if_neg e, List.getElem?_append_right (by rw [pl_len]; omega), pl_len, Nat.zero_add, List.getElem?_drop, show n + (j - n) = j by omega]
    exact madeCells32_at L j hj
/-- A list copied into a row of noughts. -/
theorem copy_nat {w w1 : World} {g n L : Nat} {f : Nat → Nat} {a : Option Addr} (hrow : w.heap[g]? = some (.cells (madeCells (Value.int .u32 0).cells (L * 1)).toList.toArray 32 (0, 0))) (hb : Below w1.heap.size w1 w) (hg : w1.heap.size ≤ g) (hA : RdA w a n f) (ca : Nat) (hn : n ≤ L) :
    ∃ w2, (Builtin.copy_ #[23, 23] 3 #[.slice (some ⟨g, 0, none⟩) L L, .slice a n ca]).run Try.prog w = .ok (.int .i64 (n : Nat)) w2 ∧ w2.heap[g]? = some (.cells (splice (madeCells (Value.int .u32 0).cells (L * 1)).toList 0 (pl f n)).toArray 32 (0, 0)) ∧ Below w1.heap.size w1 w2 := by
  rcases Nat.eq_zero_or_pos n with rfl | hpos
  · refine ⟨w, ?_, ?_, hb⟩
    · have h := run_copy_none (P := Try.prog) w 23 23 3 32 (some ⟨g, 0, none⟩) a L L 0 ca Try.underlying23 (by kernel_rfl) (Nat.min_eq_left (Nat.zero_le _))
      exact h
    · rw [hrow]; simp [splice, pl]
  · rcases hA with h | ⟨b, o, rfl, hp⟩
    · omega
    · have h := run_copy_row (P := Try.prog) w 23 23 3 32 g 0 L L ⟨b, o, none⟩ n ca _ 32 (pl f n) Try.underlying23 (by kernel_rfl) hrow (by rw [pl_len]; exact (Nat.min_eq_left hn).symm) (news_pl hp) (by rw [pl_len]; simp [size_madeCells]; omega) (one_pl f n)
      rw [pl_len] at h
      refine ⟨_, h, ?_, below_setRow hb hg _⟩
      rw [setRow_heap _ _ _ _ _ _ hrow]
      simp [splice, pl_len]
theorem vb_short (P : Nat) (f : Nat → Nat) (n L : Nat) (h : n ≤ L) : vb P (fun j => if j < n then f j else 0) L = vb P f n := by
  obtain ⟨m, rfl⟩ : ∃ m, L = n + m := ⟨L - n, by omega⟩
  rw [vb_split, vb_congr (f := fun j => if j < n then f j else 0) (g := f) (fun j hj => by rw [if_pos hj]), vb_zero (f := fun j => if n + j < n then f (n + j) else 0) (fun j _ => by rw [if_neg (by omega)])]
  simp

theorem cdN_ok {A : Nat} (h : cdN A = 0) : ¬ LIM ≤ A := fun h1 => by unfold cdN at h; rw [if_pos h1] at h; omega
theorem cd2_ok {A B : Nat} (h : cd2 A B = 0) : ¬ LIM ≤ A ∧ ¬ LIM ≤ B := by
  unfold cd2 at h
  by_cases h1 : cdN A = 0
  · rw [if_pos h1] at h; exact ⟨cdN_ok h1, cdN_ok h⟩
  · rw [if_neg h1] at h; exact absurd h h1

set_option maxRecDepth 100000 in
set_option maxHeartbeats 1000000 in
-- WHAT nat.Add COMES TO.
theorem add_api {A B : Nat} {va vb' : Value} {w : World} (hA : NN A va w) (hB : NN B vb' w) : Calls Try.prog 12 #[va, vb'] w (Ans (cdAdd A B) (A + B) w) := by
  have hA' := hA
  have hB' := hB
  obtain ⟨a, n, ca, f, rfl, ha, hav⟩ := hA'
  obtain ⟨b, m, cb, g, rfl, hb, hbv⟩ := hB'
  have hw1 : Below w.heap.size w (w.alloc (.cells #[.slice a n ca, .slice b m cb] 23)) := (Below.refl _ _).alloc (Nat.le_refl _) _
  have HC := Lib.hid (check_two (hA.below hw1) (hB.below hw1) (two_cells w _ _ _).1 (two_cells w _ _ _).2)
  obtain ⟨c, hc⟩ : ∃ c, cd2 A B = c := ⟨_, rfl⟩
  unfold cdAdd
  rw [hc] at HC ⊢
  clear hA hB
  by_cases h0 : c = 0
  · have h0' : cd2 A B = 0 := hc.trans h0
    clear hc
    rw [if_pos h0]
    have e0 : ((c : Int) != 0) = false := by simp [h0]
    clear h0
    have ha1 := ha.below hw1
    have hb1 := hb.below hw1
    have HT1 := Lib.hid (trim_nv ha1)
    have HT2 := Lib.hid (trim_nv hb1)
    have ht1 := ha1.trim
    have ht2 := hb1.trim
    obtain ⟨n', hn'⟩ : ∃ n', tn f n = n' := ⟨_, rfl⟩
    obtain ⟨m', hm'⟩ : ∃ m', tn g m = m' := ⟨_, rfl⟩
    have hav' : vb 4294967296 f n' = A := by rw [← hn', vb_tn, hav]
    have hbv' : vb 4294967296 g m' = B := by rw [← hm', vb_tn, hbv]
    have hl1 : n' ≤ 1024 := by rw [← hn']; exact Nat.le_of_not_lt (fun h => absurd ((lim_iff ha.lt).1 h) (by rw [hav]; exact (cd2_ok h0').1))
    have hl2 : m' ≤ 1024 := by rw [← hm']; exact Nat.le_of_not_lt (fun h => absurd ((lim_iff hb.lt).1 h) (by rw [hbv]; exact (cd2_ok h0').2))
    rw [hn'] at HT1 ht1
    rw [hm'] at HT2 ht2
    clear hn' hm' hav hbv ha hb ha1 hb1 h0'
    have hf1 : (n' : Int) ≤ 1024 := by have := hl1; omega
    have hf2 : (m' : Int) ≤ 1024 := by have := hl2; omega
    obtain ⟨x, hx⟩ : ∃ x : Nat, max (n' : Int) (m' : Int) = (x : Int) := ⟨max n' m', by omega⟩
    have hxn : n' ≤ x := by omega
    have hxm : m' ≤ x := by omega
    have hx1 : (x : Int) ≤ 1024 := by omega
    obtain ⟨L, hL⟩ : ∃ L : Nat, (x : Int) + 1 = (L : Int) := ⟨x + 1, by omega⟩
    have HL : Hid (x + 1 = L) := Lib.hid (by omega)
    have hLb : (L : Int) ≤ 1025 := by omega
    have HW1 := Lib.hid hw1; clear hw1
    have HA := Lib.hid ht1; clear ht1
    have HB := Lib.hid ht2; clear ht2
    have HAV := Lib.hid hav'; clear hav'
    have HBV := Lib.hid hbv'; clear hbv'
    obtain ⟨w1, hw1e⟩ : ∃ w1, w.alloc (.cells #[.slice a n ca, .slice b m cb] 23) = w1 := ⟨_, rfl⟩
    rw [hw1e] at HC HT1 HT2 HW1 HA HB
    obtain ⟨i0, hi, hz0, hz1, hz2⟩ := info_parts info32
    go_enter Try.func12, Try.ntmps12
    go_wp2_with fail
    clear hw1e
    refine HC.out.mono ?_
    rintro e w' ⟨rfl, rfl⟩
    go_wp2_with fail
    refine HT1.out.mono ?_
    rintro e w' ⟨rfl, rfl⟩
    go_wp2_with fail
    refine HT2.out.mono ?_
    rintro e w' ⟨rfl, rfl⟩
    go_upto_region 6 with (at_make; refine wpList_make_full _ rfl _ _ 23 rfl w1.heap.size 32 i0 (.int .u32 0) 1 Try.underlying23 hi hz0 hz1 .i64 .i64 _ _ L rfl rfl rfl rfl (by rw [hz2]; omega) (by unfold maxLen; omega) (Nat.le_refl _) ?_; intro w0 hown0 hgrow0)
    have hrow : w0.heap[w1.heap.size]? = some (.cells (madeCells (Value.int .u32 0).cells (L * 1)).toList.toArray 32 (0, 0)) := made_row hown0
    have hbel : Below w1.heap.size w1 w0 := (Below.refl _ _).grown hgrow0 (Nat.le_refl _) (fun k hk => by cases hk)
    have HROW := Lib.hid hrow
    have HW := Lib.hid hbel
    clear hbel hown0 hgrow0 hrow
    obtain ⟨w2, hcp, hrow2, hb2⟩ := copy_nat (w1 := w1) HROW.out HW.out (Nat.le_refl _) (HA.out.rd.below HW.out) ca (show n' ≤ L by omega)
    have hwr := splice_wr (by omega) hrow2
    have hadd := addTo_any w1.heap.size 0 L L b m' cb (fun j => if j < n' then f j else 0) g (by omega) (by omega) (fun j hj => by
      by_cases e : j < n'
      · simp only [e, if_true]; exact HA.out.lt j e
      · simp only [e, if_false]; omega) HB.out.lt (fun q hq => Nat.ne_of_lt (HB.out.blk q hq)) w2 hwr (HB.out.rd.below hb2)
    have HWR := Lib.hid (And.intro hwr hb2); clear hwr hrow2 hb2
    have HADD := Lib.hid hadd; clear hadd
    go_wp2_with fail
    refine HADD.out.mono ?_
    rintro e w3 ⟨ns, c3, rfl, hc3, hns, hv, hh⟩
    rw [vb_short _ _ _ _ (by omega), HAV.out, HBV.out] at hv
    have hz : c3 = 0 ∧ vb 4294967296 ns L = A + B := by
      have h1 : A < 4294967296 ^ x := by rw [← HAV.out]; exact Nat.lt_of_lt_of_le (vb_lt HA.out.lt) (Nat.pow_le_pow_right (by omega) hxn)
      have h2 : B < 4294967296 ^ x := by rw [← HBV.out]; exact Nat.lt_of_lt_of_le (vb_lt HB.out.lt) (Nat.pow_le_pow_right (by omega) hxm)
      have h3 : 4294967296 ^ L = 4294967296 ^ x * 4294967296 := by rw [← HL.out, Nat.pow_succ]
      rcases Nat.eq_zero_or_pos c3 with h | h
      · subst h; exact ⟨rfl, by omega⟩
      · obtain rfl : c3 = 1 := by omega
        rw [Nat.mul_one] at hv
        omega
    obtain ⟨rfl, hv2⟩ := hz
    have hb3 : Below w1.heap.size w1 w3 := But.below HWR.out.2 hh.1 (Nat.le_refl _)
    have hnv : NvA w3 (some ⟨w1.heap.size, 0, none⟩) L L ns := ⟨Nat.le_refl _, (hh.wr HWR.out.1).rd, fun q hq => by cases hq; exact (hh.wr HWR.out.1).1, hns, by omega⟩
    have hans := answer_nv hnv
    rw [hv2] at hans
    have HANS := Lib.hid hans; clear hans hnv hns hv hv2 hh hc3
    have HB3 := Lib.hid (HW1.out.trans (hb3.mono HW1.out.size)); clear hb3
    go_wp2_with fail
    refine HANS.out.mono ?_
    rintro e w4 ⟨v, rfl, h1, h2, h3⟩
    have HF : Hid (Ans (cdN (A + B)) (A + B) w (.returned (.tuple #[v, .int .i64 (cdN (A + B) : Nat)])) w4) := Lib.hid (Ans.later ⟨v, rfl, h1, h2, h3⟩ HB3.out)
    clear h1 h2 h3
    go_wp2
    go_ret2
    exact HF.out
  · clear hc
    rw [if_neg h0]
    have e0 : ((c : Int) != 0) = true := by simp [h0]
    have H0 := Lib.hid h0; clear h0 hav hbv ha hb
    have HW1 := Lib.hid hw1; clear hw1
    go_enter Try.func12, Try.ntmps12
    go_wp2_with fail
    refine HC.out.mono ?_
    rintro e w' ⟨rfl, rfl⟩
    go_wp2
    go_ret2
    exact Ans.err H0.out HW1.out
end Go.Proofs.Ytgegkffigjogcaa

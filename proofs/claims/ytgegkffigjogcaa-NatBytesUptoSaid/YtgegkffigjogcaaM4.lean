/- What nat.Mul comes to. (With it, merged: NAdd · NExp · NFrom · NFromW · NOwn · NLives · NMul.) -/
import Derived.Test.YtgegkffigjogcaaM3
import Derived.Test.YtgegkffigjogcaaM2
import Derived.Lib.ItoaMem
import Derived.BigQuiet
namespace Go.Proofs.Ytgegkffigjogcaa
open Go.RowKit

/-- The code of a sum. -/
def cdAdd (A B : Nat) : Nat := if cd2 A B = 0 then cdN (A + B) else cd2 A B
/-- The code of a product. -/
def cdMul (A B : Nat) : Nat := if cd2 A B = 0 then cdN (A * B) else cd2 A B
theorem Ans.err {c V : Nat} {w w' : World} (h : c ≠ 0) (hb : Below w.heap.size w w') : Ans c V w (.returned (.tuple #[.slice none 0 0, .int .i64 (c : Nat)])) w' := ⟨_, rfl, fun h0 => absurd h0 h, fun _ => rfl, hb⟩
theorem Ans.later {c V : Nat} {w w1 : World} {e : Ending} {w' : World} (h : Ans c V w1 e w') (hb : Below w.heap.size w w1) : Ans c V w e w' := by
  obtain ⟨v, h1, h2, h3, h4⟩ := h
  exact ⟨v, h1, h2, h3, hb.trans (h4.mono hb.size)⟩
theorem two_cells (w : World) (x y : Value) (T : TypeId) : (w.alloc (.cells #[x, y] T)).cell? ⟨w.heap.size, 0, none⟩ = some x ∧ (w.alloc (.cells #[x, y] T)).cell? ⟨w.heap.size, 1, none⟩ = some y := by
  constructor <;> rw [World.cell?_alloc_new] <;> rfl
/-- The row of a list of noughts into which another was copied. -/
theorem made_row {w : World} {base g L : Nat} (h : w.ownsRow base 32 1 (.slice (some ⟨g, 0, none⟩) L L) L (madeCells (Value.int .u32 0).cells (L * 1)).toList) : w.heap[g]? = some (.cells (madeCells (Value.int .u32 0).cells (L * 1)).toList.toArray 32 (0, 0)) := by
  obtain ⟨-, h1⟩ := h
  rcases h1 with ⟨h2, -⟩ | ⟨g2, cap, cur, h2, hg, hc, hnc, hm, hcs, ht⟩
  · cases h2
  · injection h2 with e1 e2 e3
    injection e1 with e1
    injection e1 with e1
    subst e1 e3
    rw [hc]
    congr 2
    rw [← ht, List.take_of_length_le (by simp [hcs])]
theorem splice_wr {w : World} {g n L : Nat} {f : Nat → Nat} (_hn : n ≤ L) (h : w.heap[g]? = some (.cells (splice (madeCells (Value.int .u32 0).cells (L * 1)).toList 0 (pl f n)).toArray 32 (0, 0))) : Wr w g 0 L (fun j => if j < n then f j else 0) := by
  have hlen : (madeCells (Value.int .u32 0).cells (L * 1)).toList.length = L := by simp [size_madeCells]
  refine ⟨(Array.getElem?_eq_some_iff.1 h).1, fun j hj => ⟨?_, frozen_of_row _ _ _ _ _ h⟩⟩
  rw [Nat.zero_add, cell_of_row _ _ _ _ _ _ h]
  simp only [List.getElem?_toArray, splice, List.take_zero, List.nil_append]
  by_cases e : j < n
  · rw [if_pos e, List.getElem?_append_left (by rw [pl_len]; exact e), pl_at _ _ _ e]
  · rw [if_neg e, List.getElem?_append_right (by rw [pl_len]; omega), pl_len, Nat.zero_add, List.getElem?_drop, show n + (j - n) = j by omega]
    exact madeCells32_at L j hj
/-- A list copied into a row of noughts. -/
theorem copy_nat {w w1 : World} {g n L : Nat} {f : Nat → Nat} {a : Option Addr} (hrow : w.heap[g]? = some (.cells (madeCells (Value.int .u32 0).cells (L * 1)).toList.toArray 32 (0, 0))) (hb : Below w1.heap.size w1 w) (hg : w1.heap.size ≤ g) (hA : RdA w a n f) (ca : Nat) (hn : n ≤ L) :
    ∃ w2, (Builtin.copy_ #[23, 23] 3 #[.slice (some ⟨g, 0, none⟩) L L, .slice a n ca]).run Try.prog w = .ok (.int .i64 (n : Nat)) w2 ∧ w2.heap[g]? = some (.cells (splice (madeCells (Value.int .u32 0).cells (L * 1)).toList 0 (pl f n)).toArray 32 (0, 0)) ∧ Below w1.heap.size w1 w2 := by
  rcases Nat.eq_zero_or_pos n with rfl | hpos
  · refine ⟨w, ?_, ?_, hb⟩
    · have h := run_copy_none (P := Try.prog) w 23 23 3 32 (some ⟨g, 0, none⟩) a L L 0 ca Try.underlying23 (by kernel_rfl) (Nat.min_eq_left (Nat.zero_le _))
      exact h
    · rw [hrow]; simp [splice, pl]
  · rcases hA with h | ⟨b, o, rfl, hp⟩
    · omega
    · have h := run_copy_row (P := Try.prog) w 23 23 3 32 g 0 L L ⟨b, o, none⟩ n ca _ 32 (pl f n) Try.underlying23 (by kernel_rfl) hrow (by rw [pl_len]; exact (Nat.min_eq_left hn).symm) (news_pl hp) (by rw [pl_len]; simp [size_madeCells]; omega) (one_pl f n)
      rw [pl_len] at h
      refine ⟨_, h, ?_, below_setRow hb hg _⟩
      rw [setRow_heap _ _ _ _ _ _ hrow]
      simp [splice, pl_len]
theorem vb_short (P : Nat) (f : Nat → Nat) (n L : Nat) (h : n ≤ L) : vb P (fun j => if j < n then f j else 0) L = vb P f n := by
  obtain ⟨m, rfl⟩ : ∃ m, L = n + m := ⟨L - n, by omega⟩
  rw [vb_split, vb_congr (f := fun j => if j < n then f j else 0) (g := f) (fun j hj => by rw [if_pos hj]), vb_zero (f := fun j => if n + j < n then f (n + j) else 0) (fun j _ => by rw [if_neg (by omega)])]
  simp

theorem cdN_ok {A : Nat} (h : cdN A = 0) : ¬ LIM ≤ A := fun h1 => by unfold cdN at h; rw [if_pos h1] at h; omega
theorem cd2_ok {A B : Nat} (h : cd2 A B = 0) : ¬ LIM ≤ A ∧ ¬ LIM ≤ B := by
  unfold cd2 at h
  by_cases h1 : cdN A = 0
  · rw [if_pos h1] at h; exact ⟨cdN_ok h1, cdN_ok h⟩
  · rw [if_neg h1] at h; exact absurd h h1

set_option maxRecDepth 100000 in
set_option maxHeartbeats 1000000 in
-- WHAT nat.Add COMES TO.
theorem add_api {A B : Nat} {va vb' : Value} {w : World} (hA : NN A va w) (hB : NN B vb' w) : Calls Try.prog 12 #[va, vb'] w (Ans (cdAdd A B) (A + B) w) := by
  have hA' := hA
  have hB' := hB
  obtain ⟨a, n, ca, f, rfl, ha, hav⟩ := hA'
  obtain ⟨b, m, cb, g, rfl, hb, hbv⟩ := hB'
  have hw1 : Below w.heap.size w (w.alloc (.cells #[.slice a n ca, .slice b m cb] 23)) := (Below.refl _ _).alloc (Nat.le_refl _) _
  have HC := Lib.hid (check_two (hA.below hw1) (hB.below hw1) (two_cells w _ _ _).1 (two_cells w _ _ _).2)
  obtain ⟨c, hc⟩ : ∃ c, cd2 A B = c := ⟨_, rfl⟩
  unfold cdAdd
  rw [hc] at HC ⊢
  clear hA hB
  by_cases h0 : c = 0
  · have h0' : cd2 A B = 0 := hc.trans h0
    clear hc
    rw [if_pos h0]
    have e0 : ((c : Int) != 0) = false := by simp [h0]
    clear h0
    have ha1 := ha.below hw1
    have hb1 := hb.below hw1
    have HT1 := Lib.hid (trim_nv ha1)
    have HT2 := Lib.hid (trim_nv hb1)
    have ht1 := ha1.trim
    have ht2 := hb1.trim
    obtain ⟨n', hn'⟩ : ∃ n', tn f n = n' := ⟨_, rfl⟩
    obtain ⟨m', hm'⟩ : ∃ m', tn g m = m' := ⟨_, rfl⟩
    have hav' : vb 4294967296 f n' = A := by rw [← hn', vb_tn, hav]
    have hbv' : vb 4294967296 g m' = B := by rw [← hm', vb_tn, hbv]
    have hl1 : n' ≤ 1024 := by rw [← hn']; exact Nat.le_of_not_lt (fun h => absurd ((lim_iff ha.lt).1 h) (by rw [hav]; exact (cd2_ok h0').1))
    have hl2 : m' ≤ 1024 := by rw [← hm']; exact Nat.le_of_not_lt (fun h => absurd ((lim_iff hb.lt).1 h) (by rw [hbv]; exact (cd2_ok h0').2))
    rw [hn'] at HT1 ht1
    rw [hm'] at HT2 ht2
    clear hn' hm' hav hbv ha hb ha1 hb1 h0'
    have hf1 : (n' : Int) ≤ 1024 := by have := hl1; omega
    have hf2 : (m' : Int) ≤ 1024 := by have := hl2; omega
    obtain ⟨x, hx⟩ : ∃ x : Nat, max (n' : Int) (m' : Int) = (x : Int) := ⟨max n' m', by omega⟩
    have hxn : n' ≤ x := by omega
    have hxm : m' ≤ x := by omega
    have hx1 : (x : Int) ≤ 1024 := by omega
    obtain ⟨L, hL⟩ : ∃ L : Nat, (x : Int) + 1 = (L : Int) := ⟨x + 1, by omega⟩
    have HL : Hid (x + 1 = L) := Lib.hid (by omega)
    have hLb : (L : Int) ≤ 1025 := by omega
    have HW1 := Lib.hid hw1; clear hw1
    have HA := Lib.hid ht1; clear ht1
    have HB := Lib.hid ht2; clear ht2
    have HAV := Lib.hid hav'; clear hav'
    have HBV := Lib.hid hbv'; clear hbv'
    obtain ⟨w1, hw1e⟩ : ∃ w1, w.alloc (.cells #[.slice a n ca, .slice b m cb] 23) = w1 := ⟨_, rfl⟩
    rw [hw1e] at HC HT1 HT2 HW1 HA HB
    obtain ⟨i0, hi, hz0, hz1, hz2⟩ := info_parts info32
    go_enter Try.func12, Try.ntmps12
    go_wp2_with fail
    clear hw1e
    refine HC.out.mono ?_
    rintro e w' ⟨rfl, rfl⟩
    go_wp2_with fail
    refine HT1.out.mono ?_
    rintro e w' ⟨rfl, rfl⟩
    go_wp2_with fail
    refine HT2.out.mono ?_
    rintro e w' ⟨rfl, rfl⟩
    go_upto_region 6 with (at_make; refine wpList_make_full _ rfl _ _ 23 rfl w1.heap.size 32 i0 (.int .u32 0) 1 Try.underlying23 hi hz0 hz1 .i64 .i64 _ _ L rfl rfl rfl rfl (by rw [hz2]; omega) (by unfold maxLen; omega) (Nat.le_refl _) ?_; intro w0 hown0 hgrow0)
    have hrow : w0.heap[w1.heap.size]? = some (.cells (madeCells (Value.int .u32 0).cells (L * 1)).toList.toArray 32 (0, 0)) := made_row hown0
    have hbel : Below w1.heap.size w1 w0 := (Below.refl _ _).grown hgrow0 (Nat.le_refl _) (fun k hk => by cases hk)
    have HROW := Lib.hid hrow
    have HW := Lib.hid hbel
    clear hbel hown0 hgrow0 hrow
    obtain ⟨w2, hcp, hrow2, hb2⟩ := copy_nat (w1 := w1) HROW.out HW.out (Nat.le_refl _) (HA.out.rd.below HW.out) ca (show n' ≤ L by omega)
    have hwr := splice_wr (by omega) hrow2
    have hadd := addTo_any w1.heap.size 0 L L b m' cb (fun j => if j < n' then f j else 0) g (by omega) (by omega) (fun j hj => by
      by_cases e : j < n'
      · simp only [e, if_true]; exact HA.out.lt j e
      · simp only [e, if_false]; omega) HB.out.lt (fun q hq => Nat.ne_of_lt (HB.out.blk q hq)) w2 hwr (HB.out.rd.below hb2)
    have HWR := Lib.hid (And.intro hwr hb2); clear hwr hrow2 hb2
    have HADD := Lib.hid hadd; clear hadd
    go_wp2_with fail
    refine HADD.out.mono ?_
    rintro e w3 ⟨ns, c3, rfl, hc3, hns, hv, hh⟩
    rw [vb_short _ _ _ _ (by omega), HAV.out, HBV.out] at hv
    have hz : c3 = 0 ∧ vb 4294967296 ns L = A + B := by
      have h1 : A < 4294967296 ^ x := by rw [← HAV.out]; exact Nat.lt_of_lt_of_le (vb_lt HA.out.lt) (Nat.pow_le_pow_right (by omega) hxn)
      have h2 : B < 4294967296 ^ x := by rw [← HBV.out]; exact Nat.lt_of_lt_of_le (vb_lt HB.out.lt) (Nat.pow_le_pow_right (by omega) hxm)
      have h3 : 4294967296 ^ L = 4294967296 ^ x * 4294967296 := by rw [← HL.out, Nat.pow_succ]
      rcases Nat.eq_zero_or_pos c3 with h | h
      · subst h; exact ⟨rfl, by omega⟩
      · obtain rfl : c3 = 1 := by omega
        rw [Nat.mul_one] at hv
        omega
    obtain ⟨rfl, hv2⟩ := hz
    have hb3 : Below w1.heap.size w1 w3 := But.below HWR.out.2 hh.1 (Nat.le_refl _)
    have hnv : NvA w3 (some ⟨w1.heap.size, 0, none⟩) L L ns := ⟨Nat.le_refl _, (hh.wr HWR.out.1).rd, fun q hq => by cases hq; exact (hh.wr HWR.out.1).1, hns, by omega⟩
    have hans := answer_nv hnv
    rw [hv2] at hans
    have HANS := Lib.hid hans; clear hans hnv hns hv hv2 hh hc3
    have HB3 := Lib.hid (HW1.out.trans (hb3.mono HW1.out.size)); clear hb3
    go_wp2_with fail
    refine HANS.out.mono ?_
    rintro e w4 ⟨v, rfl, h1, h2, h3⟩
    have HF : Hid (Ans (cdN (A + B)) (A + B) w (.returned (.tuple #[v, .int .i64 (cdN (A + B) : Nat)])) w4) := Lib.hid (Ans.later ⟨v, rfl, h1, h2, h3⟩ HB3.out)
    clear h1 h2 h3
    go_wp2
    go_ret2
    exact HF.out
  · clear hc
    rw [if_neg h0]
    have e0 : ((c : Int) != 0) = true := by simp [h0]
    have H0 := Lib.hid h0; clear h0 hav hbv ha hb
    have HW1 := Lib.hid hw1; clear hw1
    go_enter Try.func12, Try.ntmps12
    go_wp2_with fail
    refine HC.out.mono ?_
    rintro e w' ⟨rfl, rfl⟩
    go_wp2
    go_ret2
    exact Ans.err H0.out HW1.out
end Go.Proofs.Ytgegkffigjogcaa
namespace Go.Proofs.Ytgegkffigjogcaa
open Go.RowKit

theorem blN_le {V k : Nat} (h : V < 2 ^ k) : blN V ≤ k := by
  unfold blN
  by_cases e : V = 0
  · rw [if_pos e]; exact Nat.zero_le _
  · rw [if_neg e]; exact (Nat.log2_lt e).2 h
theorem blN_top2 (V : Nat) : V / 2 ^ blN V = 0 := by
  unfold blN
  by_cases e : V = 0
  · subst e; simp
  · rw [if_neg e]; exact Nat.div_eq_of_lt ((Nat.log2_lt e).1 (Nat.lt_succ_self _))
theorem blN_zero {V : Nat} (h : blN V = 0) : V = 0 := by
  unfold blN at h
  by_cases e : V = 0
  · exact e
  · rw [if_neg e] at h; omega
theorem blN_nz {V : Nat} (h : V ≠ 0) : blN V ≠ 0 := fun h2 => h (blN_zero h2)
theorem pow_32 (k : Nat) : (4294967296 : Nat) ^ k = 2 ^ (32 * k) := by rw [Nat.pow_mul]
theorem half_step (E i : Nat) : E / 2 ^ i = 2 * (E / 2 ^ (i + 1)) + E / 2 ^ i % 2 := by
  rw [Nat.pow_succ, ← Nat.div_div_eq_div_mul]
  omega
theorem pow_even {A E i M : Nat} (h : E / 2 ^ i % 2 = 0) : (A ^ (E / 2 ^ (i + 1)) % M) * (A ^ (E / 2 ^ (i + 1)) % M) % M = A ^ (E / 2 ^ i) % M := by
  have h2 := half_step E i
  rw [h] at h2
  generalize E / 2 ^ (i + 1) = q at h2 ⊢
  rw [h2, Nat.add_zero, Nat.two_mul, Nat.pow_add, ← Nat.mul_mod]
theorem pow_odd {A E i M : Nat} (h : E / 2 ^ i % 2 = 1) : ((A ^ (E / 2 ^ (i + 1)) % M) * (A ^ (E / 2 ^ (i + 1)) % M) % M) * (A % M) % M = A ^ (E / 2 ^ i) % M := by
  have h2 := half_step E i
  rw [h] at h2
  generalize E / 2 ^ (i + 1) = q at h2 ⊢
  rw [h2, Nat.pow_succ, Nat.two_mul, Nat.pow_add, ← Nat.mul_mod (A ^ q), ← Nat.mul_mod]
/-- Of three numbers what is wrong with the first that can't be. -/
def cd3 (A B C : Nat) : Nat := if cd2 A B = 0 then cdN C else cd2 A B
theorem check_three {w : World} {g : Nat} {va vb' vc : Value} {A B C : Nat} (hA : NN A va w) (hB : NN B vb' w) (hC : NN C vc w) (h0 : w.cell? ⟨g, 0, none⟩ = some va) (h1 : w.cell? ⟨g, 1, none⟩ = some vb') (h2 : w.cell? ⟨g, 2, none⟩ = some vc) :
    Calls Try.prog 40 #[.slice (some ⟨g, 0, none⟩) 3 3] w fun e w' => e = .returned (.int .i64 ((cd3 A B C : Nat) : Int)) ∧ w = w' := by
  have H : ∀ {V : Nat} {v : Value}, NN V v w → Calls Try.prog 22 #[v] w fun e w' => e = .returned (.int .i64 ((cdN V : Nat) : Int)) ∧ w = w' := by
    rintro V v ⟨a, n, ca, f, rfl, ha, rfl⟩
    exact check_nv ha
  have c0 := H hA
  have c1 := H hB
  have c2 := H hC
  obtain ⟨S, s0, s1, s2⟩ : ∃ S : Nat → Value, S 0 = va ∧ S 1 = vb' ∧ S 2 = vc := ⟨fun j => if j = 0 then va else if j = 1 then vb' else vc, rfl, rfl, rfl⟩
  obtain ⟨k0, hk0⟩ : ∃ k0, cdN A = k0 := ⟨_, rfl⟩
  obtain ⟨k1, hk1⟩ : ∃ k1, cdN B = k1 := ⟨_, rfl⟩
  obtain ⟨k2, hk2⟩ : ∃ k2, cdN C = k2 := ⟨_, rfl⟩
  unfold cd3 cd2
  rw [hk0] at c0 ⊢
  rw [hk1] at c1 ⊢
  rw [hk2] at c2 ⊢
  clear hk0 hk1 hk2
  obtain ⟨c, e0, e1, e2⟩ : ∃ c : Nat → Nat, c 0 = k0 ∧ c 1 = k1 ∧ c 2 = k2 := ⟨fun j => if j = 0 then k0 else if j = 1 then k1 else k2, rfl, rfl, rfl⟩
  have h := check_any g 3 S c (by omega) w (fun j hj => by
    have : j = 0 ∨ j = 1 ∨ j = 2 := by omega
    rcases this with rfl | rfl | rfl
    · rw [s0]; exact h0
    · rw [s1]; exact h1
    · rw [s2]; exact h2) (fun j hj => by
    have : j = 0 ∨ j = 1 ∨ j = 2 := by omega
    rcases this with rfl | rfl | rfl
    · rw [s0, e0]; exact c0
    · rw [s1, e1]; exact c1
    · rw [s2, e2]; exact c2)
  refine h.mono fun e w' ⟨he, hw⟩ => ⟨he.trans ?_, hw⟩
  simp only [chk, e0, e1, e2, if_true]
theorem three_cells (w : World) (x y z : Value) (T : TypeId) : (w.alloc (.cells #[x, y, z] T)).cell? ⟨w.heap.size, 0, none⟩ = some x ∧ (w.alloc (.cells #[x, y, z] T)).cell? ⟨w.heap.size, 1, none⟩ = some y ∧ (w.alloc (.cells #[x, y, z] T)).cell? ⟨w.heap.size, 2, none⟩ = some z := by
  refine ⟨?_, ?_, ?_⟩ <;> rw [World.cell?_alloc_new] <;> rfl
theorem cd3_ok {A B C : Nat} (h : cd3 A B C = 0) : ¬ LIM ≤ A ∧ ¬ LIM ≤ B ∧ ¬ LIM ≤ C := by
  unfold cd3 at h
  by_cases h1 : cd2 A B = 0
  · rw [if_pos h1] at h; exact ⟨(cd2_ok h1).1, (cd2_ok h1).2, cdN_ok h⟩
  · rw [if_neg h1] at h; exact absurd h h1
/-- A list of one part that is not nought. -/
theorem one_pv (w : World) (c : Nat) (t : TypeId) (hc : c < 4294967296) (h0 : c ≠ 0) : PV c (.slice (some ⟨w.heap.size, 0, none⟩) 1 1) (w.alloc (.cells #[.int .u32 (c : Nat)] t)) :=
  ⟨_, 1, 1, fun _ => c, rfl, ⟨Nat.le_refl _, .inr ⟨w.heap.size, 0, rfl, by simp, fun j hj => by
      obtain rfl : j = 0 := by omega
      rw [cell_of_row _ _ _ _ _ _ (heap_alloc_new _ _)]; rfl⟩, fun q hq => by cases hq; simp, fun j _ => hc, by omega⟩, by simp [vb], .inr h0⟩
/-- What is told of A raised to E modulo M. -/
def cdP (A E M : Nat) : Nat := if cd3 A E M = 0 then (if M = 0 then 1 else 0) else cd3 A E M

set_option maxRecDepth 100000 in
set_option maxHeartbeats 2000000 in
-- WHERE ALL GOES WELL.
theorem exp_main {a : Option Addr} {n ca : Nat} {f : Nat → Nat} {e2 : Option Addr} {ne ce : Nat} {fe : Nat → Nat} {b : Option Addr} {nm cb : Nat} {g : Nat → Nat} {A E M : Nat} {w : World}
    (ha : NvA w a n ca f) (hav : vb 4294967296 f n = A) (he : NvA w e2 ne ce fe) (hev : vb 4294967296 fe ne = E) (hb : NvA w b nm cb g) (hbv : vb 4294967296 g nm = M) (hc : cd3 A E M = 0) (hM0 : M ≠ 0) :
    Calls Try.prog 31 #[.slice a n ca, .slice e2 ne ce, .slice b nm cb] w (Ans 0 (A ^ E % M) w) := by
  have hw1 : Below w.heap.size w (w.alloc (.cells #[.slice a n ca, .slice e2 ne ce, .slice b nm cb] 23)) := (Below.refl _ _).alloc (Nat.le_refl _) _
  have tc := three_cells w (.slice a n ca) (.slice e2 ne ce) (.slice b nm cb) 23
  have HC := Lib.hid (check_three (A := A) (B := E) (C := M) (NN.below ⟨a, n, ca, f, rfl, ha, hav⟩ hw1) (NN.below ⟨e2, ne, ce, fe, rfl, he, hev⟩ hw1) (NN.below ⟨b, nm, cb, g, rfl, hb, hbv⟩ hw1) tc.1 tc.2.1 tc.2.2)
  rw [hc] at HC
  clear tc
  obtain ⟨lA, lE, lM⟩ := cd3_ok hc
  clear hc
  have ha1 := ha.below hw1
  have he1 := he.below hw1
  have hb1 := hb.below hw1
  have hn1 : tn f n ≤ 1024 := Nat.le_of_not_lt (fun h => lA (by rw [← hav]; exact (lim_iff ha.lt).1 h))
  have hn2 : tn fe ne ≤ 1024 := Nat.le_of_not_lt (fun h => lE (by rw [← hev]; exact (lim_iff he.lt).1 h))
  have hn3 : tn g nm ≤ 1024 := Nat.le_of_not_lt (fun h => lM (by rw [← hbv]; exact (lim_iff hb.lt).1 h))
  have HLIM := Lib.hid lM
  clear lA lE lM
  have HLM := Lib.hid (len_nv hb1)
  have HLE := Lib.hid (fun w' (hx : Below (w.alloc (.cells #[.slice a n ca, .slice e2 ne ce, .slice b nm cb] 23)).heap.size (w.alloc (.cells #[.slice a n ca, .slice e2 ne ce, .slice b nm cb] 23)) w') => len_nv (he1.below hx))
  rw [hbv] at HLM
  rw [hev] at HLE
  have elm : (((blN M : Nat) : Int) == 0) = false := by simp [blN_nz hM0]
  have HT := Lib.hid (trim_nv hb1)
  obtain ⟨k, hk⟩ : ∃ k, tn g nm = k + 1 := by
    refine ⟨tn g nm - 1, ?_⟩
    rcases Nat.eq_zero_or_pos (tn g nm) with h | h
    · exfalso; apply hM0; rw [← hbv, ← vb_tn, h]; rfl
    · omega
  have hkt : g k ≠ 0 := by
    have := tn_top g nm
    rw [hk] at this
    rcases this with h | h
    · omega
    · simpa using h
  have hbm : vb 4294967296 g (k + 1) = M := by rw [← hk, vb_tn, hbv]
  have hbt := hb1.trim
  rw [hk] at HT hn3 hbt
  clear hk hb1 hb hbv
  obtain ⟨s, hs⟩ : ∃ s, 32 - Lib.bitLen (g k) = s := ⟨_, rfl⟩
  obtain ⟨s32, sn1, sn2⟩ := norm_bits (hbt.lt k (by omega)) hkt hs.symm
  have hh := headroom_any b k cb g (hbt.lt k (by omega)) (by omega) _ hbt.rd
  rw [hs] at hh
  clear hs
  have HH := Lib.hid hh; clear hh
  have HRB := Lib.hid (raise_any b (k + 1) cb s g (by omega) s32 hbt.lt _ hbt.rd)
  have HPL := Lib.hid (fun w' (hx : Below (w.alloc (.cells #[.slice a n ca, .slice e2 ne ce, .slice b nm cb] 23)).heap.size (w.alloc (.cells #[.slice a n ca, .slice e2 ne ce, .slice b nm cb] 23)) w') => plain_cut a n ca f (by have := ha.few; omega) ha.cap w' (ha1.rd.below hx))
  have hf1 : ∀ j, j < tn f n → f j < 4294967296 := fun j hj => ha.lt j (Nat.lt_of_lt_of_le hj (tn_le f n))
  have hav1 : vb 4294967296 f (tn f n) = A := by rw [vb_tn, hav]
  obtain ⟨n1, hn1e⟩ : ∃ n1, tn f n = n1 := ⟨_, rfl⟩
  rw [hn1e] at HPL hn1 hf1 hav1
  clear hn1e ha1 ha hav
  have hbl : blN E ≤ 32 * tn fe ne := blN_le (by rw [← pow_32, ← hev, ← vb_tn]; exact vb_lt (fun j hj => he.lt j (Nat.lt_of_lt_of_le hj (tn_le fe ne))))
  have hbne : ∀ i, i < blN E → i / 32 < ne := fun i hi => by have := tn_le fe ne; omega
  have hE0 := blN_top2 E
  obtain ⟨bl, hble⟩ : ∃ bl, blN E = bl := ⟨_, rfl⟩
  rw [hble] at HLE hbl hbne hE0
  have hbl2 : (bl : Int) ≤ 32768 := by omega
  clear hble hbl hn2 he
  have HBNE := Lib.hid hbne; clear hbne
  have HE0 := Lib.hid hE0; clear hE0
  have HW1 := Lib.hid hw1; clear hw1
  have HE := Lib.hid he1; clear he1
  have HEV := Lib.hid hev; clear hev
  have HB := Lib.hid hbt; clear hbt
  have HBM := Lib.hid hbm; clear hbm
  have HKT := Lib.hid hkt; clear hkt
  have SN := Lib.hid (And.intro sn1 sn2); clear sn1 sn2
  have HF1 := Lib.hid (And.intro hf1 hav1); clear hf1 hav1
  have HM0 := Lib.hid hM0; clear hM0
  obtain ⟨w1, hw1e⟩ : ∃ w1, w.alloc (.cells #[.slice a n ca, .slice e2 ne ce, .slice b nm cb] 23) = w1 := ⟨_, rfl⟩
  rw [hw1e] at HC HLM HLE HT HW1 HE HB HH HRB HPL
  obtain ⟨i0, hi, hz0, hz1, hz2⟩ := info_parts info32
  have hk0 : (0 : Int) ≤ k := by omega
  have hk1 : (k : Int) ≤ 1023 := by omega
  clear hn3
  go_enter Try.func31, Try.ntmps31
  go_wp2_with fail
  clear hw1e
  refine HC.out.mono ?_
  rintro e w' ⟨rfl, rfl⟩
  go_wp2_with fail
  refine HLM.out.mono ?_
  rintro e w' ⟨rfl, rfl⟩
  go_wp2_with fail
  refine HT.out.mono ?_
  rintro e w' ⟨rfl, rfl⟩
  go_wp2_with fail
  refine HH.out.mono ?_
  rintro e w' ⟨rfl, rfl⟩
  go_wp2_with fail
  refine HRB.out.mono ?_
  rintro e w2 ⟨V, d, rfl, hV, hWV, hb2, hdl, hdn⟩
  obtain ⟨hz, hdn2, hdm⟩ := norm_top (B := 4294967296) (by omega) (fun j hj => HB.out.lt j (by omega)) (by have := SN.out.1; omega) SN.out.2 hdl hdn
  rw [HBM.out] at hdn2
  have hsl := slice_nat (some ⟨V, 0, none⟩) (k + 1 + 1) (k + 1 + 1) (k + 1) (by omega)
  have HV := Lib.hid (And.intro hV (And.intro hWV (And.intro hb2 (And.intro (fun j (hj : j < k + 1) => hdl j (by omega)) (And.intro hdn2 (show 2147483648 ≤ d k by omega))))))
  clear hV hWV hb2 hdl hdn hdn2 hdm hz
  obtain ⟨MM, hMM⟩ : ∃ MM, vb 4294967296 d (k + 1) = MM := ⟨_, rfl⟩
  have HMM := Lib.hid hMM; clear hMM
  go_wp2_with fail
  refine (HPL.out _ HV.out.2.2.1).mono ?_
  rintro e w3 ⟨a1, rfl, hnone, hrd, hq, hb3⟩
  have HP := Lib.hid (And.intro hnone (And.intro hrd (And.intro hq (And.intro (HV.out.2.2.1.trans (hb3.mono HV.out.2.2.1.size)) hb3)))); clear hnone hrd hq hb3
  have hn1' : (n1 : Int) ≤ 1024 := by omega
  go_wp2_with (at_builtin; refine wpList_append_grows _ rfl _ _ 23 rfl 32 i0 (.int .u32 0) 1 4 Try.underlying23 hi hz0 hz1 hz2 rfl (by decide) a1 n1 n1 (pl f n1) rfl (fun h => ⟨HP.out.1 h, HP.out.1 h⟩) (by rw [pl_len, Nat.mul_one]) ?d1 ⟨w3.heap.size, 0, none⟩ 1 1 [.int .u32 0] rfl rfl ?d2 ?d3 (by omega) ?d4 ?d5 ?_)
  case d1 => exact rd_add (HP.out.2.1.below ((Below.refl _ _).alloc (Nat.le_refl _) _))
  case d2 => exact nought_at w3 _ _
  case d3 => intro u hu; simp only [List.mem_cons, List.not_mem_nil, or_false] at hu; subst hu; rfl
  case d4 => unfold maxLen; omega
  case d5 => omega
  intro v' w4 hown hgrow
  rw [pl_behind] at hown
  obtain ⟨S, cS, rfl, hcS, hS, hWS⟩ := own_wr hown (by omega)
  have hb4 : Below w3.heap.size w3 w4 := ((Below.refl _ _).alloc (Nat.le_refl _) _).grown hgrow (by simp) (fun j hj => by cases hj)
  have hbw := HP.out.2.2.2.1.trans (hb4.mono HP.out.2.2.2.1.size)
  have hS3 : w3.heap.size ≤ S := Nat.le_trans (by simp) hS
  have hV3 : V < w2.heap.size := HV.out.2.1.1
  have hb24 := HP.out.2.2.2.2.trans (hb4.mono HP.out.2.2.2.2.size)
  have hoff : Off S (some ⟨V, 0, none⟩) := fun q hq => by
    cases hq
    exact Nat.ne_of_lt (Nat.lt_of_lt_of_le (Nat.lt_of_lt_of_le hV3 HP.out.2.2.2.2.size) hS3)
  have hmo := modulo_any S (n1 + 1) cS (beh f n1) (some ⟨V, 0, none⟩) k (k + 1 + 1) d (by omega) (by omega) (by omega) hcS (beh_lt HF1.out.1) (beh_top f n1) HV.out.2.2.2.1 HV.out.2.2.2.2.2 hoff w4 hWS ((HV.out.2.1.less (k + 1) (by omega)).rd.below hb24)
  rw [beh_vb, HF1.out.2, HMM.out] at hmo
  have HM := Lib.hid hmo; clear hmo
  have HY := Lib.hid (And.intro hWS (And.intro hcS (And.intro hbw (And.intro (Nat.le_trans HP.out.2.2.2.2.size hS3) hb24))))
  clear hown hgrow hb4 hbw hS3 hoff hS hWS hcS hV3 hb24
  go_wp2_with fail
  refine HM.out.mono ?_
  intro e w5 h
  have hbt5 : Below w2.heap.size w2 w5 := by
    obtain ⟨r, -, hh, -, -⟩ := h
    exact But.below HY.out.2.2.2.2 hh.1 HY.out.2.2.2.1
  obtain ⟨vbase, rfl, hpb, hb5⟩ := mod_done h HY.out.1 HY.out.2.1 (by omega) HY.out.2.2.1 (Nat.le_trans HV.out.2.2.1.size HY.out.2.2.2.1)
  obtain ⟨w6, hw6⟩ : ∃ w6, w5.alloc (.cells #[.int .u32 1] 32) = w6 := ⟨_, rfl⟩
  have hal : Below w5.heap.size w5 w6 := by rw [← hw6]; exact (Below.refl _ _).alloc (Nat.le_refl _) _
  have hone : PV 1 (.slice (some ⟨w5.heap.size, 0, none⟩) 1 1) w6 := by rw [← hw6]; exact one_pv w5 1 _ (by omega) (by omega)
  have hb6 : Below w1.heap.size w1 w6 := hb5.trans (hal.mono hb5.size)
  have HW6 := Lib.hid (And.intro hone (And.intro hb6 (And.intro (hpb.below hal) (hbt5.trans (hal.mono hbt5.size)))))
  clear hal hone hb6 hpb hb5 hbt5 h
  go_wp2_with fail
  clear hw6
  refine (HLE.out w6 HW6.out.2.1).mono ?_
  rintro e w' ⟨rfl, rfl⟩
  have hbl0 : (0 : Int) ≤ bl := by omega
  have hms : MM < 4294967296 ^ (k + 1) := by rw [← HMM.out]; exact vb_lt HV.out.2.2.2.1
  have HMS := Lib.hid hms; clear hms
  have hstart : PV (A ^ (E / 2 ^ bl) % MM) (.slice (some ⟨w5.heap.size, 0, none⟩) 1 1) w6 := by
    have h1 : vb 4294967296 d (k + 1) = vb 4294967296 d k + 4294967296 ^ k * d k := rfl
    have h2 : 1 * d k ≤ 4294967296 ^ k * d k := Nat.mul_le_mul_right _ (Nat.pow_pos (by omega))
    have h3 := HV.out.2.2.2.2.2
    rw [HMM.out] at h1
    rw [HE0.out, Nat.pow_zero, Nat.mod_eq_of_lt (by omega)]
    exact HW6.out.1
  have HMP : Hid (0 < MM) := Lib.hid (by
    have h1 : vb 4294967296 d (k + 1) = vb 4294967296 d k + 4294967296 ^ k * d k := rfl
    have h2 : 1 * d k ≤ 4294967296 ^ k * d k := Nat.mul_le_mul_right _ (Nat.pow_pos (by omega))
    have h3 := HV.out.2.2.2.2.2
    rw [HMM.out] at h1
    omega)
  have HST := Lib.hid hstart; clear hstart
  go_wp2
  go_loopw [11, 12] (fun pv iv wx => ∃ (z : Int) (c : Nat), c ≤ bl ∧ z = (c : Int) - 1 ∧ iv = .int .i64 z ∧ Hid (PV (A ^ (E / 2 ^ c) % MM) pv wx ∧ Below w6.heap.size w6 wx)) (fun _ iv _ => (intOf iv + 1).toNat)
  case atStart => exact ⟨(bl : Int) - 1, bl, Nat.le_refl _, rfl, rfl, Lib.hid ⟨HST.out, Below.refl _ _⟩⟩
  case round =>
    obtain ⟨z, c, hcc, hz, rfl, H⟩ := hrel
    cases c with
    | zero =>
      have hz1 : z < 0 := by omega
      have hzf : decide (0 ≤ z) = false := by rw [decide_eq_false_iff_not]; omega
      have HZ := Lib.hid hz; clear hz
      obtain ⟨⟨a2, n2, c2, f2, rfl, hnv, hval, htop⟩, hbx⟩ := H.out
      have hn2 : n2 ≤ k + 1 := (plain_len (by omega) hnv.lt htop).1 (by rw [hval]; exact Nat.lt_trans (Nat.mod_lt _ HMP.out) HMS.out)
      have hbx1 := HW6.out.2.1.trans (hbx.mono HW6.out.2.1.size)
      have hdv := divide_any a2 n2 c2 b k cb f2 g (by omega) (by omega) hnv.lt HB.out.lt HKT.out wr (hnv.rd) (HB.out.rd.below hbx1)
      rw [hval, HBM.out] at hdv
      have HDV := Lib.hid hdv; clear hdv
      have HBX := Lib.hid hbx1; clear hbx1 hbx hval htop
      have hn20 : (n2 : Int) ≤ 1024 := by omega
      have HNV := Lib.hid hnv; clear hnv
      obtain ⟨G, hG⟩ : ∃ G, A ^ E % M = G := ⟨_, rfl⟩
      have hGM : cdN G = 0 := by
        unfold cdN
        rw [if_neg]
        intro h
        have h1 : G < M := by rw [← hG]; exact Nat.mod_lt _ (Nat.pos_of_ne_zero HM0.out)
        exact HLIM.out (Nat.le_of_lt (Nat.lt_of_le_of_lt h h1))
      have hmode : A ^ (E / 2 ^ 0) % MM % M = G := by
        rw [← hG, Nat.pow_zero, Nat.div_one]
        exact Nat.mod_mod_of_dvd _ ⟨2 ^ s, by rw [← HMM.out, HV.out.2.2.2.2.1, Nat.mul_comm]⟩
      have HMODE := Lib.hid hmode; clear hmode
      have HG := Lib.hid hG; clear hG
      have HGM := Lib.hid hGM; clear hGM
      clear H
      go_wp2_with fail
      refine HDV.out.mono ?_
      rintro e w7 ⟨Q, nq, cq, R, cr, q, r, rfl, -, -, hcr, -, -, -, -, hWR, -, hrl, -, hvr, hb7⟩
      rw [HMODE.out] at hvr
      have hans := answer_nv (w := w7) (a := some ⟨R, 0, none⟩) (n := n2 + 1) (cap := cr) (f := r) ⟨hcr, hWR.rd, fun q hq => by cases hq; exact hWR.1, hrl, by omega⟩
      rw [hvr] at hans
      have HANS := Lib.hid hans; clear hans
      have HB7 := Lib.hid (HW1.out.trans ((HBX.out.trans (hb7.mono HBX.out.size)).mono HW1.out.size)); clear hb7 hvr hrl hWR hcr
      go_wp2_with fail
      refine HANS.out.mono ?_
      rintro e w8 ⟨v, rfl, h1, h2, h3⟩
      have HF : Hid (Ans (cdN G) G w (.returned (.tuple #[v, .int .i64 (cdN G : Nat)])) w8) := Lib.hid (Ans.later ⟨v, rfl, h1, h2, h3⟩ HB7.out)
      clear h1 h2 h3
      go_wp2
      go_ret2
      have h := HF.out
      rw [HGM.out] at h ⊢
      rw [HG.out]
      exact h
    | succ i =>
      obtain rfl : z = (i : Int) := by omega
      have hi0 : (0 : Int) ≤ i := by omega
      have hib : i < bl := by omega
      obtain ⟨hpv, hbx⟩ := H.out
      have hxs : A ^ (E / 2 ^ (i + 1)) % MM < 4294967296 ^ (k + 1) := Nat.lt_trans (Nat.mod_lt _ HMP.out) HMS.out
      have hbs : A % MM < 4294967296 ^ (k + 1) := Nat.lt_trans (Nat.mod_lt _ HMP.out) HMS.out
      have hb2x := HW6.out.2.2.2.trans (hbx.mono HW6.out.2.2.2.size)
      have hrd := (HV.out.2.1.less (k + 1) (by omega)).rd.below hb2x
      have hblk : ∀ q, some (⟨V, 0, none⟩ : Addr) = some q → q.block < wr.heap.size := fun q hq => by cases hq; exact Nat.lt_of_lt_of_le HV.out.2.1.1 hb2x.size
      have ht1 := times_mod hpv hpv (some ⟨V, 0, none⟩) k (k + 1 + 1) d (by omega) HV.out.2.2.2.1 HV.out.2.2.2.2.2 hrd hblk hxs hxs
      rw [HMM.out] at ht1
      have HT1 := Lib.hid ht1; clear ht1
      have HT2 := Lib.hid (fun (w7 : World) (hb7 : Below wr.heap.size wr w7) (Z : Nat) (v : Value) (hv : PV Z v w7) (hZ : Z < 4294967296 ^ (k + 1)) => times_mod hv ((HW6.out.2.2.1.below hbx).below hb7) (some ⟨V, 0, none⟩) k (k + 1 + 1) d (by omega) HV.out.2.2.2.1 HV.out.2.2.2.2.2 (hrd.below hb7) (fun q hq => Nat.lt_of_lt_of_le (hblk q hq) hb7.size) hZ hbs)
      rw [HMM.out] at HT2
      have HHB := Lib.hid (fun (w7 : World) (hb7 : Below wr.heap.size wr w7) => hasBit_nv (((HE.out.below HW6.out.2.1).below hbx).below hb7) i (HBNE.out i hib) (by omega))
      rw [HEV.out] at HHB
      have HBX := Lib.hid hbx
      clear hpv hbx hxs hbs hb2x hrd hblk hz
      cases hbit : (E / 2 ^ i % 2 == 1) with
      | false =>
        rw [hbit] at HHB
        have HBIT : Hid (E / 2 ^ i % 2 = 0) := Lib.hid (by
          have h1 : ¬ E / 2 ^ i % 2 = 1 := by simpa using hbit
          omega)
        clear hbit
        go_wp2_with fail
        refine HT1.out.mono ?_
        rintro e w7 ⟨v1, rfl, hv1, hb7⟩
        rw [pow_even HBIT.out] at hv1
        have H7 := Lib.hid (And.intro hv1 hb7); clear hv1 hb7
        go_wp2_with fail
        refine (HHB.out w7 H7.out.2).mono ?_
        rintro e w' ⟨rfl, rfl⟩
        go_wp2
        go_roundw
        case rel => exact ⟨(i : Int) - 1, i, by omega, rfl, rfl, Lib.hid ⟨H7.out.1, HBX.out.trans (H7.out.2.mono HBX.out.size)⟩⟩
        case measure => first | (simp [intOf]; done) | (simp [intOf]; omega)
      | true =>
        rw [hbit] at HHB
        have HBIT : Hid (E / 2 ^ i % 2 = 1) := Lib.hid (by simpa using hbit)
        clear hbit
        go_wp2_with fail
        refine HT1.out.mono ?_
        rintro e w7 ⟨v1, rfl, hv1, hb7⟩
        have H7 := Lib.hid (And.intro hv1 hb7); clear hv1 hb7
        go_wp2_with fail
        refine (HHB.out w7 H7.out.2).mono ?_
        rintro e w' ⟨rfl, rfl⟩
        go_wp2_with fail
        refine (HT2.out w7 H7.out.2 _ v1 H7.out.1 (Nat.lt_trans (Nat.mod_lt _ HMP.out) HMS.out)).mono ?_
        rintro e w8 ⟨v2, rfl, hv2, hb8⟩
        rw [pow_odd HBIT.out] at hv2
        have H8 := Lib.hid (And.intro hv2 (H7.out.2.trans (hb8.mono H7.out.2.size))); clear hv2 hb8
        go_wp2
        go_roundw
        case rel => exact ⟨(i : Int) - 1, i, by omega, rfl, rfl, Lib.hid ⟨H8.out.1, HBX.out.trans (H8.out.2.mono HBX.out.size)⟩⟩
        case measure => first | (simp [intOf]; done) | (simp [intOf]; omega)
set_option maxRecDepth 100000 in
set_option maxHeartbeats 1000000 in
-- WHAT nat.ModExp COMES TO.
theorem exp_api {A E M : Nat} {va ve vm : Value} {w : World} (hA : NN A va w) (hE : NN E ve w) (hM : NN M vm w) : Calls Try.prog 31 #[va, ve, vm] w (Ans (cdP A E M) (A ^ E % M) w) := by
  have hA' := hA
  have hE' := hE
  have hM' := hM
  obtain ⟨a, n, ca, f, rfl, ha, hav⟩ := hA'
  obtain ⟨e2, ne, ce, fe, rfl, he, hev⟩ := hE'
  obtain ⟨b, nm, cb, g, rfl, hb, hbv⟩ := hM'
  have hw1 : Below w.heap.size w (w.alloc (.cells #[.slice a n ca, .slice e2 ne ce, .slice b nm cb] 23)) := (Below.refl _ _).alloc (Nat.le_refl _) _
  have tc := three_cells w (.slice a n ca) (.slice e2 ne ce) (.slice b nm cb) 23
  have HC := Lib.hid (check_three (hA.below hw1) (hE.below hw1) (hM.below hw1) tc.1 tc.2.1 tc.2.2)
  clear tc
  by_cases h0 : cd3 A E M = 0
  · by_cases hm0 : M = 0
    · have ec : cdP A E M = 1 := by unfold cdP; rw [if_pos h0, if_pos hm0]
      rw [ec]
      rw [h0] at HC
      have HLM := Lib.hid (len_nv (hb.below hw1))
      rw [hbv, show blN M = 0 by rw [hm0]; rfl] at HLM
      have HW1 := Lib.hid hw1
      clear hw1 ha he hb hav hev hbv hA hE hM h0 hm0 ec
      go_enter Try.func31, Try.ntmps31
      go_wp2_with fail
      refine HC.out.mono ?_
      rintro e w' ⟨rfl, rfl⟩
      go_wp2_with fail
      refine HLM.out.mono ?_
      rintro e w' ⟨rfl, rfl⟩
      go_wp2
      go_ret2
      exact Ans.err (by omega) HW1.out
    · have ec : cdP A E M = 0 := by unfold cdP; rw [if_pos h0, if_neg hm0]
      rw [ec]
      exact exp_main ha hav he hev hb hbv h0 hm0
  · have ec : cdP A E M = cd3 A E M := by unfold cdP; rw [if_neg h0]
    rw [ec]
    clear ec
    obtain ⟨c, hc⟩ : ∃ c, cd3 A E M = c := ⟨_, rfl⟩
    rw [hc] at HC h0 ⊢
    have e0 : ((c : Int) != 0) = true := by simp [h0]
    have H0 := Lib.hid h0; clear h0 hav hev hbv ha he hb hc hA hE hM
    have HW1 := Lib.hid hw1; clear hw1
    go_enter Try.func31, Try.ntmps31
    go_wp2_with fail
    refine HC.out.mono ?_
    rintro e w' ⟨rfl, rfl⟩
    go_wp2
    go_ret2
    exact Ans.err H0.out HW1.out
end Go.Proofs.Ytgegkffigjogcaa
namespace Go.Proofs.Ytgegkffigjogcaa
open Go.RowKit

/-- A list, or none, of n bytes. -/
def RdB (w : World) (a : Option Addr) (n : Nat) (f : Nat → Nat) : Prop := n = 0 ∨ ∃ b o, a = some ⟨b, o, none⟩ ∧ b < w.heap.size ∧ ∀ j, j < n → w.cell? ⟨b, o + j, none⟩ = some (.int .u8 (f j : Nat))
theorem RdB.below {w w' : World} {a : Option Addr} {n : Nat} {f : Nat → Nat} (h : RdB w a n f) (hb : Below w.heap.size w w') : RdB w' a n f := by
  rcases h with h | ⟨b, o, h1, h2, h3⟩
  · exact .inl h
  · exact .inr ⟨b, o, h1, Nat.lt_of_lt_of_le h2 hb.size, fun j hj => (hb.cell (p := ⟨b, o + j, none⟩) h2).trans (h3 j hj)⟩
theorem RdB.at_ {w : World} {a : Option Addr} {n : Nat} {f : Nat → Nat} (h : RdB w a n f) (cap k : Nat) (hk : k < n) : ∃ p : Addr, (∀ w, (Instr.indexAt 43 (.slice a n cap) (.int .i64 (k : Int))).run Try.prog w = .ok (.pointer (some p)) w) ∧ p.block < w.heap.size ∧ w.cell? p = some (.int .u8 (f k : Nat)) := by
  rcases h with rfl | ⟨b, o, rfl, h1, h2⟩
  · omega
  · refine ⟨⟨b, o + k, none⟩, fun w => ?_, h1, h2 k hk⟩
    have h0 : (0 : Int) ≤ k := by omega
    have h1 : (k : Int) < n := by omega
    go_simp
theorem RdB.next {w : World} {a : Option Addr} {m cap : Nat} {f : Nat → Nat} (h : RdB w a (m + 1) f) (hc : m + 1 ≤ cap) : ∃ a', (∀ w, (Instr.slice 43 (.slice a (m + 1) cap) (some (.int .i64 1)) none none).run Try.prog w = .ok (.slice a' m (cap - 1)) w) ∧ RdB w a' m (fun j => f (1 + j)) := by
  rcases h with h | ⟨b, o, rfl, h1, h2⟩
  · omega
  · have hsz : (sizeOf (Try.prog.elem 43)).run Try.prog w = .ok 1 w := by kernel_rfl
    refine ⟨if cap = 1 then some ⟨b, o, none⟩ else some ⟨b, o + 1, none⟩, fun w => ?_, ?_⟩
    · have hsz : (sizeOf (Try.prog.elem 43)).run Try.prog w = .ok 1 w := by kernel_rfl
      have hr := run_slice_l (P := Try.prog) w 43 (some ⟨b, o, none⟩) (m + 1) cap (by kernel_rfl) .i64 1 (by omega) (by omega)
      rw [hr, hsz]
      simp only [Result.andThen, sliced]
      rw [show (1 : Int).toNat = 1 from rfl, Nat.add_sub_cancel]
      by_cases h : cap = 1
      · rw [if_pos h, if_pos h]
      · rw [if_neg h, if_neg h]; simp [Addr.add]
    · by_cases h : cap = 1
      · exact .inl (by omega)
      · rw [if_neg h]; exact .inr ⟨b, o + 1, rfl, h1, fun j hj => by have := h2 (1 + j) (by omega); rwa [show o + (1 + j) = o + 1 + j by omega] at this⟩
/-- The number that bytes say, the highest first. -/
def bw (f : Nat → Nat) : Nat → Nat
  | 0 => 0
  | n + 1 => 256 * bw f n + f n
theorem bw_lt {f : Nat → Nat} : ∀ {n : Nat}, (∀ j, j < n → f j < 256) → bw f n < 256 ^ n
  | 0, _ => by simp [bw]
  | n + 1, h => by
    have h1 := bw_lt (n := n) (fun j hj => h j (by omega))
    have h2 := h n (by omega)
    simp only [bw, Nat.pow_succ]
    omega
theorem bw_skip {f : Nat → Nat} {k : Nat} (h : ∀ j, j < k → f j = 0) : ∀ m, bw f (k + m) = bw (fun j => f (k + j)) m
  | 0 => by
    rw [Nat.add_zero]
    induction k with
    | zero => rfl
    | succ k ih =>
      simp only [bw] at ih ⊢
      rw [ih (fun j hj => h j (by omega)), h k (by omega)]
  | m + 1 => by
    rw [← Nat.add_assoc]
    simp only [bw]
    rw [bw_skip h m]
theorem bw_ge {g : Nat → Nat} (h : g 0 ≠ 0) : ∀ m, 256 ^ m ≤ bw g (m + 1)
  | 0 => by simp only [bw]; omega
  | m + 1 => by
    have := bw_ge h m
    simp only [bw, Nat.pow_succ] at this ⊢
    omega
theorem lim_gen (k j : Nat) (h : j = 4 * k) : (4294967296 : Nat) ^ k = 256 ^ j := by rw [h, Nat.pow_mul]
theorem lim_bytes : LIM = 256 ^ 4096 := by
  unfold LIM
  exact lim_gen 1024 4096 (by omega)
theorem bw_lim {g : Nat → Nat} {m K : Nat} (hg : ∀ j, j < m → g j < 256) (h : m = 0 ∨ g 0 ≠ 0) : 256 ^ K ≤ bw g m ↔ K < m := by
  constructor
  · intro h1
    exact Nat.lt_of_not_le (fun h2 => absurd (Nat.lt_of_lt_of_le (bw_lt hg) (Nat.pow_le_pow_right (by omega) h2)) (Nat.not_lt.2 h1))
  · intro h1
    obtain ⟨k, rfl⟩ : ∃ k, m = k + 1 := ⟨m - 1, by omega⟩
    exact Nat.le_trans (Nat.pow_le_pow_right (by omega) (Nat.le_of_lt_succ h1)) (bw_ge (h.resolve_left (by omega)) k)
theorem bw_long {g : Nat → Nat} {m : Nat} (hg : ∀ j, j < m → g j < 256) (h : m = 0 ∨ g 0 ≠ 0) : cdN (bw g m) = if 4096 < m then 2 else 0 := by
  have hk := bw_lim (K := 4096) hg h
  unfold cdN
  rw [lim_bytes]
  by_cases e : 4096 < m
  · rw [if_pos e, if_pos (hk.2 e)]
  · rw [if_neg e, if_neg (fun h1 => e (hk.1 h1))]
/-- The list while bytes are written into it, the highest first. -/
structure FromR (B L m i : Nat) (g o : Nat → Nat) (w wr : World) : Prop where
  out : Wr wr B 0 L o
  old : Below w.heap.size w wr
  lt : ∀ j, j < L → o j < 4294967296
  num : vb 4294967296 o L = 256 ^ (m - i) * bw g i
theorem pow_256 (r : Nat) : (256 : Nat) ^ r = 2 ^ (8 * r) := by rw [Nat.pow_mul]
theorem from_or {D x r h : Nat} (hD : D = 256 ^ (r + 1) * h) (hx : x < 256) (hl : D < 4294967296) (hr : r < 4) : bits .or .u32 (D : Int) ((x : Int) * 2 ^ (8 * r) % 4294967296) = ((D + 256 ^ r * x : Nat) : Int) ∧ D + 256 ^ r * x < 4294967296 := by
  have h256 : 256 ^ (r + 1) = 256 * 256 ^ r := by rw [Nat.pow_succ, Nat.mul_comm]
  have hp : 0 < 256 ^ r := Nat.pow_pos (by omega)
  have hx2 : 256 ^ r * x < 256 ^ (r + 1) := by
    rw [Nat.pow_succ]; exact Nat.mul_lt_mul_of_pos_left hx hp
  obtain ⟨c, hc⟩ : ∃ c, 256 ^ (r + 1) * c = 4294967296 := ⟨256 ^ (3 - r), by rw [← Nat.pow_add, show r + 1 + (3 - r) = 4 by omega]⟩
  have hh : h + 1 ≤ c := by
    rw [hD, ← hc] at hl
    exact Nat.lt_of_mul_lt_mul_left hl
  have hsum : D + 256 ^ r * x < 4294967296 := by
    have h1 := Nat.mul_le_mul_left (256 ^ (r + 1)) hh
    rw [Nat.mul_add, Nat.mul_one, ← hD, hc] at h1
    omega
  refine ⟨?_, hsum⟩
  have e1 : (x : Int) * 2 ^ (8 * r) % 4294967296 = ((256 ^ r * x : Nat) : Int) := by
    have : ((x : Int) * 2 ^ (8 * r)) = ((256 ^ r * x : Nat) : Int) := by
      rw [pow_256]; generalize 8 * r = s; simp [Int.mul_comm]
    rw [this, natmod2, Nat.mod_eq_of_lt (by omega)]
  rw [e1, (bits_u32_nat D _ hl (by omega)).2.1, hD, pow_256, Nat.two_pow_add_eq_or_of_lt (by rw [← pow_256]; exact hx2)]
theorem FromR.next {B L m i p q r : Nat} {g o : Nat → Nat} {w wr : World} (h : FromR B L m i g o w wr) (hB : w.heap.size ≤ B) (hi : i < m) (hp : p = m - 1 - i) (hq : p = 4 * q + r) (hr : r < 4) (hqL : q < L) (hx : g i < 256) :
    bits .or .u32 ((o q : Nat) : Int) (((g i : Nat) : Int) * 2 ^ (8 * r) % 4294967296) = ((o q + 256 ^ r * g i : Nat) : Int) ∧
    FromR B L m (i + 1) g (upd o q (o q + 256 ^ r * g i)) w (wr.setCell ⟨B, q, none⟩ (.int .u32 ((o q + 256 ^ r * g i : Nat) : Int))) := by
  have hd := vb_digit h.lt q hqL
  have e1 : m - i = p + 1 := by omega
  have e2 : (256 : Nat) ^ (p + 1) = 4294967296 ^ q * 256 ^ (r + 1) := by rw [hq, show (4294967296 : Nat) = 256 ^ 4 from rfl, ← Nat.pow_mul, ← Nat.pow_add]; congr 1
  obtain ⟨c, hc⟩ : ∃ c, 256 ^ (r + 1) * c = 4294967296 := ⟨256 ^ (3 - r), by rw [← Nat.pow_add, show r + 1 + (3 - r) = 4 by omega]⟩
  have hD : ∃ y, o q = 256 ^ (r + 1) * y := by
    rw [h.num, e1, e2, Nat.mul_assoc, Nat.mul_div_cancel_left _ (Nat.pow_pos (by omega)), ← hc, Nat.mul_mod_mul_left] at hd
    exact ⟨_, hd⟩
  obtain ⟨y, hy⟩ := hD
  obtain ⟨f1, f2⟩ := from_or hy hx (h.lt q hqL) hr
  refine ⟨f1, by have := h.out.set q (o q + 256 ^ r * g i) hqL; rwa [Nat.zero_add] at this, h.old.setCell hB _, fun j hj => ?_, ?_⟩
  · unfold upd; split
    · exact f2
    · exact h.lt j hj
  · have hs := vb_set 4294967296 o q (o q + 256 ^ r * g i) L hqL
    have hn := h.num
    have e3 : m - (i + 1) = p := by omega
    rw [e1] at hn
    rw [e3]
    simp only [bw]
    have e4 : (256 : Nat) ^ p = 4294967296 ^ q * 256 ^ r := by rw [hq, show (4294967296 : Nat) = 256 ^ 4 from rfl, ← Nat.pow_mul, ← Nat.pow_add]
    have e5 : (256 : Nat) ^ (p + 1) * bw g i = 256 ^ p * (256 * bw g i) := by rw [Nat.pow_succ, Nat.mul_assoc]
    rw [hn, e5, Nat.mul_add (4294967296 ^ q), ← Nat.mul_assoc (4294967296 ^ q), ← e4] at hs
    rw [Nat.mul_add]
    omega
end Go.Proofs.Ytgegkffigjogcaa
namespace Go.Proofs.Ytgegkffigjogcaa
open Go.RowKit

set_option maxRecDepth 100000 in
set_option maxHeartbeats 1000000 in
theorem from_any (a : Option Addr) (n cap : Nat) (f : Nat → Nat) (hn : (n : Int) ≤ 140737488355328) (hc : n ≤ cap) (hf : ∀ j, j < n → f j < 256) (w : World) (hP : RdB w a n f) :
    Calls Try.prog 35 #[.slice a n cap] w (Ans (cdN (bw f n)) (bw f n) w) := by
  have HP := Lib.hid hP; clear hP
  have HFB := Lib.hid hf; clear hf
  obtain ⟨i0, hi, hz0, hz1, hz2⟩ := info_parts info32
  go_enter Try.func35, Try.ntmps35
  go_wp2
  go_loop [0] (fun v => ∃ (k m : Nat) (a' : Option Addr) (c' : Nat), k + m = n ∧ v = .slice a' m c' ∧ m ≤ c' ∧ Hid (RdB w a' m (fun j => f (k + j)) ∧ ∀ j, j < k → f j = 0)) (fun v => match v with | .slice _ m _ => m | _ => 0)
  case atStart => exact ⟨0, n, a, cap, by omega, rfl, hc, Lib.hid ⟨by simpa using HP.out, fun j hj => by omega⟩⟩
  case round =>
    obtain ⟨k, m, a', c', hkm, rfl, hmc, H⟩ := hrel
    have hm0 : (0 : Int) ≤ m := by omega
    have hm1 : (m : Int) ≤ 140737488355328 := by omega
    by_cases hgo : m ≠ 0 ∧ f k = 0
    · obtain ⟨h1, h2⟩ := hgo
      obtain ⟨x, rfl⟩ : ∃ x, m = x + 1 := ⟨m - 1, by omega⟩
      have hpos : (0 : Int) < ((x + 1 : Nat) : Int) := by omega
      have hpos2 : (0 : Int) < (x : Int) + 1 := by omega
      obtain ⟨p, hx, -, ca⟩ := H.out.1.at_ c' 0 (by omega)
      have hx0 : ∀ w, (Instr.indexAt 43 (.slice a' (x + 1) c') (.int .i64 0)).run Try.prog w = .ok (.pointer (some p)) w := hx
      clear hx
      have ca0 : w.cell? p = some (.int .u8 0) := by rw [ca]; show some (Value.int .u8 ((f (k + 0) : Nat) : Int)) = _; rw [Nat.add_zero, h2]; rfl
      clear ca
      obtain ⟨a2, hsl, hrd⟩ := H.out.1.next hmc
      have HN := Lib.hid (And.intro hrd h2); clear hrd h2 h1
      go_wp2
      go_round
      case rel => exact ⟨k + 1, x, a2, c' - 1, by omega, rfl, by omega, Lib.hid ⟨by have := HN.out.1; simpa only [Nat.add_assoc] using this, fun j hj => by
        by_cases e : j < k
        · exact H.out.2 j e
        · rw [show j = k by omega]; exact HN.out.2⟩⟩
      case measure => simp
    · have hm4 : (m : Int) ≤ 140737488355331 := by omega
      have hstop : m = 0 ∨ f k ≠ 0 := by
        rcases Nat.eq_zero_or_pos m with h | h
        · exact .inl h
        · exact .inr (fun h2 => hgo ⟨by omega, h2⟩)
      have hV : bw f n = bw (fun j => f (k + j)) m := by rw [← hkm]; exact bw_skip H.out.2 m
      have hgl : ∀ j, j < m → f (k + j) < 256 := fun j hj => HFB.out (k + j) (by omega)
      have hcd := bw_long hgl (by rcases hstop with h | h; exact .inl h; exact .inr h)
      obtain ⟨g, hg⟩ : ∃ g : Nat → Nat, (fun j => f (k + j)) = g := ⟨_, rfl⟩
      have hg0 : f k = g 0 := by rw [← hg]; rfl
      have hrd := H.out.1
      rw [hg] at hV hcd hrd
      have hgl' : ∀ j, j < m → g j < 256 := fun j hj => by rw [← hg]; exact hgl j hj
      rw [hg0] at hstop
      have HVV := Lib.hid hV
      have HCD := Lib.hid hcd
      have HG := Lib.hid (And.intro hgl' hrd)
      clear hg hg0 hgl hgl' hrd hV hcd hgo H
      by_cases hlong : 4096 < m
      · have HC2 : Hid (cdN (bw g m) = 2) := Lib.hid (by rw [HCD.out, if_pos hlong])
        have hl : (4096 : Int) < m := by omega
        have hpos : (0 : Int) < m := by omega
        have hz : (((g 0 : Nat) : Int) == 0) = false := by simpa using hstop.resolve_left (by omega)
        obtain ⟨p, hx, -, ca⟩ := HG.out.2.at_ c' 0 (by omega)
        have hx0 : ∀ w, (Instr.indexAt 43 (.slice a' m c') (.int .i64 0)).run Try.prog w = .ok (.pointer (some p)) w := hx
        clear hx hstop hlong
        go_wp2
        go_ret2
        rw [HVV.out, HC2.out]
        exact Ans.err (c := 2) (by omega) (Below.refl _ _)
      · have hl : ¬ (4096 : Int) < m := by omega
        clear hlong
        obtain ⟨L, hL⟩ : ∃ L : Nat, ((m : Int) + 3) / 4 = (L : Int) := ⟨(m + 3) / 4, by omega⟩
        have HL : Hid (4 * L ≤ m + 3 ∧ m ≤ 4 * L) := Lib.hid (by omega)
        have hLb : (L : Int) ≤ 1024 := by omega
        have hLb0 : (0 : Int) ≤ L := by omega
        have hm5 : (m : Int) ≤ 4096 := by omega
        clear hm1 hm4
        rcases Nat.eq_zero_or_pos m with hm | hm
        · have hpos : ¬ (0 : Int) < m := by omega
          clear hm hstop
          go_wp2_with (at_make; refine wpList_make_full _ rfl _ _ 23 rfl w.heap.size 32 i0 (.int .u32 0) 1 Try.underlying23 hi hz0 hz1 .i64 .i64 _ _ L rfl rfl (by first | exact hL | rfl) (by first | exact hL | rfl) (by rw [hz2]; omega) (by unfold maxLen; omega) (Nat.le_refl _) ?_; intro w0 hown0 hgrow0)
          have hout : Wr w0 w.heap.size 0 L (fun _ => 0) := ⟨(hown0.lt _ rfl).2, fun j hj => ⟨by rw [Nat.zero_add]; exact (hown0.cellAt j (by omega)).trans (madeCells32_at L j hj), by rw [Nat.zero_add]; exact hown0.frozenAt j⟩⟩
          have hbel : Below w.heap.size w w0 := (Below.refl _ _).grown hgrow0 (Nat.le_refl _) (fun k hk => by cases hk)
          have hst : FromR w.heap.size L m 0 g (fun _ => 0) w w0 := ⟨hout, hbel, fun _ _ => (by show 0 < 4294967296; omega), by rw [vb_zero (fun _ _ => rfl)]; simp [bw]⟩
          have HST := Lib.hid hst
          clear hst hout hbel hown0 hgrow0
          go_wp2
          go_loopw [29] (fun iv wr => ∃ i : Nat, i ≤ m ∧ iv = .int .i64 i ∧ Hid (∃ o, FromR w.heap.size L m i g o w wr)) (fun iv _ => m - (intOf iv).toNat)
          case atStart => exact ⟨0, by omega, rfl, Lib.hid ⟨_, HST.out⟩⟩
          case round =>
            obtain ⟨i, him, rfl, H⟩ := hrel
            have hi0 : (0 : Int) ≤ i := by omega
            by_cases hlt : i < m
            · have hin : (i : Int) < m := by omega
              exact absurd hin (by omega)
            · obtain rfl : i = m := by omega
              have hin : ¬ (i : Int) < i := by omega
              obtain ⟨o, HO⟩ := H.out
              have hnv : NvA wr (some ⟨w.heap.size, 0, none⟩) L L o := ⟨Nat.le_refl _, HO.out.rd, fun q hq => by cases hq; exact HO.out.1, HO.lt, by omega⟩
              have hans := answer_nv hnv
              rw [HO.num, Nat.sub_self, Nat.pow_zero, Nat.one_mul] at hans
              have HANS := Lib.hid hans
              have HB := Lib.hid HO.old
              clear hans hnv HO H
              go_wp2_with fail
              refine HANS.out.mono ?_
              rintro e w4 ⟨v, rfl, h1, h2, h3⟩
              have HF : Hid (Ans (cdN (bw g i)) (bw g i) w (.returned (.tuple #[v, .int .i64 (cdN (bw g i) : Nat)])) w4) := Lib.hid (Ans.later ⟨v, rfl, h1, h2, h3⟩ HB.out)
              clear h1 h2 h3
              go_wp2
              go_ret2
              rw [HVV.out]
              exact HF.out
        · have hpos : (0 : Int) < m := by omega
          have hz : (((g 0 : Nat) : Int) == 0) = false := by simpa using hstop.resolve_left (by omega)
          obtain ⟨p, hx, -, ca⟩ := HG.out.2.at_ c' 0 (by omega)
          have hx0 : ∀ w, (Instr.indexAt 43 (.slice a' m c') (.int .i64 0)).run Try.prog w = .ok (.pointer (some p)) w := hx
          clear hx hstop hm
          go_wp2_with (at_make; refine wpList_make_full _ rfl _ _ 23 rfl w.heap.size 32 i0 (.int .u32 0) 1 Try.underlying23 hi hz0 hz1 .i64 .i64 _ _ L rfl rfl (by first | exact hL | rfl) (by first | exact hL | rfl) (by rw [hz2]; omega) (by unfold maxLen; omega) (Nat.le_refl _) ?_; intro w0 hown0 hgrow0)
          have hout : Wr w0 w.heap.size 0 L (fun _ => 0) := ⟨(hown0.lt _ rfl).2, fun j hj => ⟨by rw [Nat.zero_add]; exact (hown0.cellAt j (by omega)).trans (madeCells32_at L j hj), by rw [Nat.zero_add]; exact hown0.frozenAt j⟩⟩
          have hbel : Below w.heap.size w w0 := (Below.refl _ _).grown hgrow0 (Nat.le_refl _) (fun k hk => by cases hk)
          have hst : FromR w.heap.size L m 0 g (fun _ => 0) w w0 := ⟨hout, hbel, fun _ _ => (by show 0 < 4294967296; omega), by rw [vb_zero (fun _ _ => rfl)]; simp [bw]⟩
          have HST := Lib.hid hst
          clear hst hout hbel hown0 hgrow0
          go_wp2
          go_loopw [29] (fun iv wr => ∃ i : Nat, i ≤ m ∧ iv = .int .i64 i ∧ Hid (∃ o, FromR w.heap.size L m i g o w wr)) (fun iv _ => m - (intOf iv).toNat)
          case atStart => exact ⟨0, by omega, rfl, Lib.hid ⟨_, HST.out⟩⟩
          case round =>
            obtain ⟨i, him, rfl, H⟩ := hrel
            have hi0 : (0 : Int) ≤ i := by omega
            by_cases hlt : i < m
            · have hin : (i : Int) < m := by omega
              obtain ⟨p2, hp2⟩ : ∃ p2 : Nat, (m : Int) - 1 - (i : Int) = (p2 : Int) := ⟨m - 1 - i, by omega⟩
              obtain ⟨q, hq⟩ : ∃ q : Nat, (p2 : Int) / 4 = (q : Int) := ⟨p2 / 4, by omega⟩
              obtain ⟨r, hr⟩ : ∃ r : Nat, (p2 : Int) % 4 = (r : Int) := ⟨p2 % 4, by omega⟩
              obtain ⟨s, hs⟩ : ∃ s : Nat, (r : Int) * 8 = (s : Int) := ⟨8 * r, by omega⟩
              have hp20 : (0 : Int) ≤ p2 := by omega
              have hp21 : (p2 : Int) < 4096 := by omega
              have hq0 : (0 : Int) ≤ q := by omega
              have hqL : (q : Int) < L := by have := HL.out; omega
              have hr0 : (0 : Int) ≤ r := by omega
              have hr4 : (r : Int) < 4 := by omega
              have hs0 : (0 : Int) ≤ s := by omega
              have hs1 : (s : Int) < 32 := by omega
              obtain ⟨o, HO⟩ := H.out
              have hgi := HG.out.1 i hlt
              obtain ⟨pp, hix, hpb, cb⟩ := (HG.out.2.below HO.old).at_ c' i hlt
              have co : wr.cell? ⟨w.heap.size, q, none⟩ = some (.int .u32 (o q : Nat)) := by have := (HO.out.2 q (by omega)).1; rwa [Nat.zero_add] at this
              have fo : wr.frozen? ⟨w.heap.size, q, none⟩ = false := by have := (HO.out.2 q (by omega)).2; rwa [Nat.zero_add] at this
              obtain ⟨n1, n2⟩ := HO.next (Nat.le_refl _) hlt (show p2 = m - 1 - i by omega) (show p2 = 4 * q + r by omega) (by omega) (by omega) hgi
              rw [show 8 * r = s by omega] at n1
              have HS := Lib.hid n1
              have HN := Lib.hid n2
              have hg0 : (0 : Int) ≤ ((g i : Nat) : Int) := by omega
              have hg1 : ((g i : Nat) : Int) < 256 := by omega
              clear n1 n2 HO hgi H
              go_wp2_with fail
              go_region
              go_wp2
              go_roundw
              case rel =>
                refine ⟨i + 1, by omega, by go_num, Lib.hid ⟨upd o q (o q + 256 ^ r * g i), ?_⟩⟩
                rw [HS.out]
                exact ⟨HN.out.out.drew, HN.out.old.drew, HN.out.lt, HN.out.num⟩
              case measure => simp [intOf]; omega
            · obtain rfl : i = m := by omega
              have hin : ¬ (i : Int) < i := by omega
              obtain ⟨o, HO⟩ := H.out
              have hnv : NvA wr (some ⟨w.heap.size, 0, none⟩) L L o := ⟨Nat.le_refl _, HO.out.rd, fun q hq => by cases hq; exact HO.out.1, HO.lt, by omega⟩
              have hans := answer_nv hnv
              rw [HO.num, Nat.sub_self, Nat.pow_zero, Nat.one_mul] at hans
              have HANS := Lib.hid hans
              have HB := Lib.hid HO.old
              clear hans hnv HO H
              go_wp2_with fail
              refine HANS.out.mono ?_
              rintro e w4 ⟨v, rfl, h1, h2, h3⟩
              have HF : Hid (Ans (cdN (bw g i)) (bw g i) w (.returned (.tuple #[v, .int .i64 (cdN (bw g i) : Nat)])) w4) := Lib.hid (Ans.later ⟨v, rfl, h1, h2, h3⟩ HB.out)
              clear h1 h2 h3
              go_wp2
              go_ret2
              rw [HVV.out]
              exact HF.out
end Go.Proofs.Ytgegkffigjogcaa
namespace Go.Proofs.Ytgegkffigjogcaa
open Go.RowKit

set_option maxRecDepth 100000 in
set_option maxHeartbeats 1000000 in
theorem own_some (b o n cap : Nat) (f : Nat → Nat) (hn : (n : Int) ≤ 35184372088832) (w : World) (hP : Pt w b o n f) :
    Calls Try.prog 13 #[.slice (some ⟨b, o, none⟩) n cap] w (MkN n f w) := by
  have HP := Lib.hid hP; clear hP
  obtain ⟨i0, hi, hz0, hz1, hz2⟩ := info_parts info32
  go_enter Try.func13, Try.ntmps13
  go_wp2_with (at_builtin; refine wpList_append_own _ rfl _ _ 23 rfl w.heap.size 32 i0 (.int .u32 0) 1 4 Try.underlying23 hi hz0 hz1 hz2 rfl (by decide) _ 0 [] rfl (World.ownsRow_made (base := w.heap.size) (e := 32) (size := 1) w #[] 0 (by simp) (by decide) (by simp)) ⟨b, o, none⟩ n cap (pl f n) rfl (by rw [pl_len, Nat.mul_one]) ?c1 ?c2 ?c3 ?c4 ?c5 ?_)
  case c1 => exact news_pl (HP.out.below ((Below.refl _ _).alloc (Nat.le_refl _) _))
  case c2 => exact one_pl f n
  case c3 => unfold maxLen; omega
  case c4 => omega
  case c5 => simp
  intro v' w1 hown' hgrow _
  have HF := Lib.hid (mk_own (w := w) hown' (Nat.le_refl _) (((Below.refl _ _).alloc (Nat.le_refl _) _).grown hgrow (by simp) (fun j hj => by cases hj; exact Nat.le_refl _)))
  clear hown' hgrow
  go_wp2
  go_ret
  exact HF.out
set_option maxRecDepth 100000 in
set_option maxHeartbeats 1000000 in
theorem own_nil (f : Nat → Nat) (w : World) : Calls Try.prog 13 #[.slice none 0 0] w (MkN 0 f w) := by
  obtain ⟨i0, hi, hz0, hz1, hz2⟩ := info_parts info32
  go_enter Try.func13, Try.ntmps13
  go_wp2_with (at_builtin; refine wpList_append_own_none rfl _ _ 23 rfl w.heap.size 32 i0 1 Try.underlying23 hi _ 0 [] rfl (World.ownsRow_made (base := w.heap.size) (e := 32) (size := 1) w #[] 0 (by simp) (by decide) (by simp)) rfl ?_)
  go_wp2
  go_ret
  exact ⟨_, 0, rfl, Nat.le_refl _, .inl rfl, (fun q hq => by cases hq; exact ⟨Nat.le_refl _, by simp⟩), by go_grown⟩
/-- An argument of a statement: none, or a list that lies in memory. -/
def ArgN (w : World) (v : Value) (n : Nat) (f : Nat → Nat) : Prop := ∃ (a : Option Addr) (cap : Nat), v = .slice a n cap ∧ n ≤ cap ∧ (a = none → cap = 0) ∧ RdA w a n f
theorem ArgN.below {w w' : World} {v : Value} {n : Nat} {f : Nat → Nat} (h : ArgN w v n f) (hb : Below w.heap.size w w') : ArgN w' v n f := by
  obtain ⟨a, cap, h1, h2, h3, h4⟩ := h
  exact ⟨a, cap, h1, h2, h3, h4.below hb⟩
set_option maxRecDepth 100000 in
set_option maxHeartbeats 1000000 in
theorem own_void (a : Addr) (cap : Nat) (f : Nat → Nat) (w : World) : Calls Try.prog 13 #[.slice (some a) 0 cap] w (MkN 0 f w) := by
  obtain ⟨i0, hi, hz0, hz1, hz2⟩ := info_parts info32
  go_enter Try.func13, Try.ntmps13
  go_wp2_with (at_builtin; refine wpList_append_own _ rfl _ _ 23 rfl w.heap.size 32 i0 (.int .u32 0) 1 4 Try.underlying23 hi hz0 hz1 hz2 rfl (by decide) _ 0 [] rfl (World.ownsRow_made (base := w.heap.size) (e := 32) (size := 1) w #[] 0 (by simp) (by decide) (by simp)) a 0 cap (pl f 0) rfl (by rw [pl_len, Nat.mul_one]) ?c1 ?c2 ?c3 ?c4 ?c5 ?_)
  case c1 => intro j u hj; simp [pl] at hj
  case c2 => exact one_pl f 0
  case c3 => unfold maxLen; omega
  case c4 => omega
  case c5 => simp
  intro v' w1 hown' hgrow _
  have HF := Lib.hid (mk_own (w := w) hown' (Nat.le_refl _) (((Below.refl _ _).alloc (Nat.le_refl _) _).grown hgrow (by simp) (fun j hj => by cases hj; exact Nat.le_refl _)))
  clear hown' hgrow
  go_wp2
  go_ret
  exact HF.out
-- WHAT own COMES TO: a number of the same parts.
theorem own_any {w : World} {v : Value} {n : Nat} {f : Nat → Nat} (h : ArgN w v n f) (hn : (n : Int) ≤ 35184372088832) (hf : ∀ j, j < n → f j < 4294967296) : Calls Try.prog 13 #[v] w fun e w' => ∃ u, e = .returned u ∧ NN (vb 4294967296 f n) u w' ∧ Below w.heap.size w w' := by
  have key : ∀ {n : Nat}, (n : Int) ≤ 35184372088832 → (∀ j, j < n → f j < 4294967296) → ∀ {e : Ending} {w' : World}, MkN n f w e w' → ∃ u, e = .returned u ∧ NN (vb 4294967296 f n) u w' ∧ Below w.heap.size w w' := by
    rintro n hn hf e w' ⟨a, c, rfl, h1, h2, h3, h4⟩
    exact ⟨_, rfl, ⟨a, n, c, f, rfl, ⟨h1, h2, fun q hq => (h3 q hq).2, hf, hn⟩, rfl⟩, h4⟩
  obtain ⟨a, cap, rfl, hc, hn0, hr⟩ := h
  cases a with
  | none =>
    have h0 := hn0 rfl
    subst h0
    obtain rfl : n = 0 := by omega
    exact (own_nil f w).mono fun e w' h => key hn hf h
  | some q =>
    rcases hr with rfl | ⟨b, o, e, hp⟩
    · exact (own_void q cap f w).mono fun e w' h => key hn hf h
    · injection e with e
      subst e
      exact (own_some b o n cap f hn w hp).mono fun e w' h => key hn hf h
-- WHAT few COMES TO.
theorem few_any {w : World} {v : Value} {n : Nat} {f : Nat → Nat} (h : ArgN w v n f) (k : Nat) (hk : (k : Int) ≤ 1000) : Calls Try.prog 18 #[v, .int .i64 k] w fun e w' => ∃ u, e = .returned u ∧ ArgN w u (min n k) f ∧ w = w' := by
  have hk0 : (0 : Int) ≤ k := by omega
  obtain ⟨a, cap, hv, hc, hn0, hr⟩ := h
  have h : ArgN w v n f := ⟨a, cap, hv, hc, hn0, hr⟩
  subst hv
  by_cases hlt : k < n
  · have hlt' : (k : Int) < n := by omega
    have hsl := slice_nat a n cap k (by omega)
    have h' : ArgN w (.slice a k cap) k f := ⟨a, cap, rfl, by omega, hn0, hr.less k (by omega)⟩
    rw [Nat.min_eq_right (Nat.le_of_lt hlt)]
    have H := Lib.hid h'; clear h' h hr hn0
    go_enter Try.func18, Try.ntmps18
    go_wp2
    go_ret
    exact ⟨_, rfl, H.out, rfl⟩
  · have hlt' : ¬ (k : Int) < n := by omega
    rw [Nat.min_eq_left (by omega)]
    have H := Lib.hid h; clear h hr hn0
    go_enter Try.func18, Try.ntmps18
    go_wp2
    go_ret
    exact ⟨_, rfl, H.out, rfl⟩
set_option maxRecDepth 100000 in
set_option maxHeartbeats 1000000 in
theorem same_walk (a : Option Addr) (n ca : Nat) (b : Option Addr) (cb : Nat) (f : Nat → Nat) (hn : (n : Int) ≤ 35184372088832) (w : World) (hA : RdA w a n f) (hB : RdA w b n f) :
    Calls Try.prog 17 #[.slice a n ca, .slice b n cb] w fun e w' => e = .returned (.bool true) ∧ ∃ m, w' = w.drewN m := by
  have HA := Lib.hid hA; clear hA
  have HB := Lib.hid hB; clear hB
  have e0 : ((n : Int) != n) = false := by simp
  go_enter Try.func17, Try.ntmps17
  go_wp2
  go_loopw [5] (fun iv wr => ∃ i : Nat, i ≤ n ∧ iv = .int .i64 i ∧ Hid (∃ m, wr = w.drewN m)) (fun iv _ => n - (intOf iv).toNat)
  case atStart => exact ⟨0, by omega, rfl, Lib.hid ⟨0, rfl⟩⟩
  case round =>
    obtain ⟨i, hi, rfl, H⟩ := hrel
    have hi0 : (0 : Int) ≤ i := by omega
    obtain ⟨q, hq⟩ := H.out
    subst hq
    by_cases hlt : i < n
    · have hlt' : (i : Int) < n := by omega
      obtain ⟨pa, hxa, -, -, ca'⟩ := HA.out.at_ ca i hlt
      obtain ⟨pb, hxb, -, -, cb'⟩ := HB.out.at_ cb i hlt
      have e1 : (((f i : Nat) : Int) != ((f i : Nat) : Int)) = false := by simp
      clear H
      go_wp2_with fail
      go_quiet (fail)
      go_wp2
      go_roundw
      case rel => exact ⟨i + 1, by omega, by go_num, Lib.hid ⟨q + nq, rfl⟩⟩
      case measure => first | (simp [intOf]; done) | (simp [intOf]; omega)
    · obtain rfl : i = n := by omega
      go_wp2
      go_ret
      exact ⟨rfl, q, rfl⟩
-- WHAT same COMES TO, of one number twice.
theorem same_any {V : Nat} {u v : Value} {w : World} (hu : PV V u w) (hv : PV V v w) : Calls Try.prog 17 #[u, v] w fun e w' => e = .returned (.bool true) ∧ ∃ m, w' = w.drewN m := by
  obtain ⟨a, n, ca, f, rfl, ha, h1, h2⟩ := hu
  obtain ⟨b, m, cb, g, rfl, hb, h3, h4⟩ := hv
  obtain ⟨rfl, he⟩ := plain_inj (P := 4294967296) (by omega) ha.lt hb.lt h2 h4 (h1.trans h3.symm)
  refine same_walk a n ca b cb f ha.few w ha.rd ?_
  rcases hb.rd with h | ⟨bb, oo, e, hp⟩
  · exact .inl h
  · exact .inr ⟨bb, oo, e, hp.1, fun j hj => by rw [he j hj]; exact hp.2 j hj⟩
end Go.Proofs.Ytgegkffigjogcaa
namespace Go.Proofs.Ytgegkffigjogcaa
open Go.RowKit

theorem pow_up (B k : Nat) (hB : 0 < B) (h : 1 ≤ k) : B ^ 1 ≤ B ^ k := Nat.pow_le_pow_right hB h
theorem lim_up (k : Nat) (hk : 1 ≤ k) {x : Nat} (h : x < 4294967296) : ¬ 4294967296 ^ k ≤ x := by
  intro h1
  have h2 := pow_up 4294967296 k (by omega) hk
  rw [Nat.pow_one] at h2
  exact absurd (Nat.lt_of_lt_of_le h h2) (Nat.not_lt.2 h1)
theorem lim_is : ∃ k : Nat, 1 ≤ k ∧ LIM = 4294967296 ^ k := ⟨1024, by decide, by unfold LIM; rfl⟩
theorem small_lim {x : Nat} (h : x < 4294967296) : ¬ LIM ≤ x := by
  obtain ⟨k, hk, e⟩ := lim_is
  rw [e]
  exact lim_up k hk h
theorem small_cd {x : Nat} (h : x < 4294967296) : cdN x = 0 := by unfold cdN; rw [if_neg (small_lim h)]
theorem bytes_rd (w : World) (x y : Nat) (t : TypeId) : RdB (w.alloc (.cells #[.int .u8 (x : Nat), .int .u8 (y : Nat)] t)) (some ⟨w.heap.size, 0, none⟩) 2 (fun j => if j = 0 then x else y) :=
  .inr ⟨w.heap.size, 0, rfl, by simp, fun j hj => by
    have : j = 0 ∨ j = 1 := by omega
    rcases this with rfl | rfl <;> (rw [cell_of_row _ _ _ _ _ _ (heap_alloc_new _ _)]; rfl)⟩
theorem below_drewN {h : Nat} {w w' : World} (hb : Below h w w') (m : Nat) : Below h w (w'.drewN m) :=
  ⟨hb.os, hb.tape, hb.output, hb.size, hb.block⟩
set_option maxRecDepth 100000 in
set_option maxHeartbeats 1000000 in
theorem lives_any (w : World) : Calls Try.prog 21 #[] w fun e w' => e = .returned (.bool true) ∧ Below w.heap.size w w' := by
  obtain ⟨w1, hw1⟩ : ∃ w1, w.alloc (.cells #[.int .u32 3] 32) = w1 := ⟨_, rfl⟩
  obtain ⟨w2, hw2⟩ : ∃ w2, w1.alloc (.cells #[.int .u32 5] 32) = w2 := ⟨_, rfl⟩
  obtain ⟨w3, hw3⟩ : ∃ w3, w2.alloc (.cells #[.int .u32 7] 32) = w3 := ⟨_, rfl⟩
  have b1 : Below w.heap.size w w1 := by rw [← hw1]; exact (Below.refl _ _).alloc (Nat.le_refl _) _
  have b2 : Below w1.heap.size w1 w2 := by rw [← hw2]; exact (Below.refl _ _).alloc (Nat.le_refl _) _
  have b3 : Below w2.heap.size w2 w3 := by rw [← hw3]; exact (Below.refl _ _).alloc (Nat.le_refl _) _
  have p1 : PV 3 (.slice (some ⟨w.heap.size, 0, none⟩) 1 1) w1 := by rw [← hw1]; exact one_pv w 3 _ (by omega) (by omega)
  have p2 : PV 5 (.slice (some ⟨w1.heap.size, 0, none⟩) 1 1) w2 := by rw [← hw2]; exact one_pv w1 5 _ (by omega) (by omega)
  have p3 : PV 7 (.slice (some ⟨w2.heap.size, 0, none⟩) 1 1) w3 := by rw [← hw3]; exact one_pv w2 7 _ (by omega) (by omega)
  have he := exp_api ((p1.below b2).below b3).nn (p2.below b3).nn p3.nn
  have hc : cdP 3 5 7 = 0 := by unfold cdP cd3 cd2; rw [small_cd (x := 3) (by omega), small_cd (x := 5) (by omega), small_cd (x := 7) (by omega)]; rfl
  rw [hc, show 3 ^ 5 % 7 = 5 from rfl] at he
  have HE := Lib.hid he
  have b4 := b1.trans (b2.mono b1.size)
  have HB := Lib.hid (b4.trans (b3.mono b4.size))
  clear he hc b1 b2 b3 b4 p1 p2 p3
  go_enter Try.func21, Try.ntmps21
  go_wp2_with fail
  clear hw1 hw2 hw3
  refine HE.out.mono ?_
  rintro e w4 ⟨v, rfl, hv, -, hb4⟩
  obtain ⟨w5, hw5⟩ : ∃ w5, w4.alloc (.cells #[.int .u8 1, .int .u8 0] 5) = w5 := ⟨_, rfl⟩
  have b5 : Below w4.heap.size w4 w5 := by rw [← hw5]; exact (Below.refl _ _).alloc (Nat.le_refl _) _
  have hf := from_any (some ⟨w4.heap.size, 0, none⟩) 2 2 (fun j => if j = 0 then 1 else 0) (by omega) (by omega) (fun j _ => by
    by_cases e : j = 0
    · simp only [e, if_true]; omega
    · simp only [e, if_false]; omega) w5 (by rw [← hw5]; exact bytes_rd w4 1 0 _)
  rw [show bw (fun j => if j = 0 then 1 else 0) 2 = 256 from rfl, small_cd (by omega)] at hf
  have HF := Lib.hid hf
  have h4 := HB.out.trans (hb4.mono HB.out.size)
  have HV := Lib.hid (And.intro ((hv rfl).below b5) (h4.trans (b5.mono h4.size)))
  clear hf hv hb4 b5 h4
  go_wp2_with fail
  clear hw5
  refine HF.out.mono ?_
  rintro e w6 ⟨u, rfl, hu, -, hb6⟩
  obtain ⟨w7, hw7⟩ : ∃ w7, w6.alloc (.cells #[.int .u32 5] 32) = w7 := ⟨_, rfl⟩
  have b7 : Below w6.heap.size w6 w7 := by rw [← hw7]; exact (Below.refl _ _).alloc (Nat.le_refl _) _
  have p7 : PV 5 (.slice (some ⟨w6.heap.size, 0, none⟩) 1 1) w7 := by rw [← hw7]; exact one_pv w6 5 _ (by omega) (by omega)
  have HS1 := Lib.hid (same_any ((HV.out.1.below hb6).below b7) p7)
  have h6 := HV.out.2.trans (hb6.mono HV.out.2.size)
  have HU := Lib.hid (And.intro ((hu rfl).below b7) (h6.trans (b7.mono h6.size)))
  clear hu hb6 b7 p7 h6
  go_wp2_with fail
  clear hw7
  refine HS1.out.mono ?_
  rintro e w8 ⟨rfl, m1, hm1⟩
  have b8 : Below w7.heap.size w7 w8 := by rw [hm1]; exact below_drewN (Below.refl _ _) _
  clear hm1
  obtain ⟨w9, hw9⟩ : ∃ w9, w8.alloc (.cells #[.int .u32 256] 32) = w9 := ⟨_, rfl⟩
  have b9 : Below w8.heap.size w8 w9 := by rw [← hw9]; exact (Below.refl _ _).alloc (Nat.le_refl _) _
  have p9 : PV 256 (.slice (some ⟨w8.heap.size, 0, none⟩) 1 1) w9 := by rw [← hw9]; exact one_pv w8 256 _ (by omega) (by omega)
  have HS2 := Lib.hid (same_any ((HU.out.1.below b8).below b9) p9)
  have h8 := HU.out.2.trans (b8.mono HU.out.2.size)
  have H9 := Lib.hid (h8.trans (b9.mono h8.size))
  clear b8 b9 p9 h8
  go_wp2_with fail
  clear hw9
  refine HS2.out.mono ?_
  rintro e wz ⟨rfl, m2, hm2⟩
  have HZ := Lib.hid (show Below w.heap.size w wz by rw [hm2]; exact below_drewN H9.out _)
  clear hm2
  go_wp2
  go_ret
  exact ⟨rfl, HZ.out⟩
end Go.Proofs.Ytgegkffigjogcaa
namespace Go.Proofs.Ytgegkffigjogcaa
open Go.RowKit

set_option maxRecDepth 100000 in
set_option maxHeartbeats 1000000 in
-- WHAT nat.Mul COMES TO.
theorem mul_api {A B : Nat} {va vb' : Value} {w : World} (hA : NN A va w) (hB : NN B vb' w) : Calls Try.prog 19 #[va, vb'] w (Ans (cdMul A B) (A * B) w) := by
  have hA' := hA
  have hB' := hB
  obtain ⟨a, n, ca, f, rfl, ha, hav⟩ := hA'
  obtain ⟨b, m, cb, g, rfl, hb, hbv⟩ := hB'
  have hw1 : Below w.heap.size w (w.alloc (.cells #[.slice a n ca, .slice b m cb] 23)) := (Below.refl _ _).alloc (Nat.le_refl _) _
  have HC := Lib.hid (check_two (hA.below hw1) (hB.below hw1) (two_cells w _ _ _).1 (two_cells w _ _ _).2)
  obtain ⟨c, hc⟩ : ∃ c, cd2 A B = c := ⟨_, rfl⟩
  unfold cdMul
  rw [hc] at HC ⊢
  clear hA hB
  by_cases h0 : c = 0
  · have h0' : cd2 A B = 0 := hc.trans h0
    clear hc
    rw [if_pos h0]
    have e0 : ((c : Int) != 0) = false := by simp [h0]
    clear h0
    have ha1 := ha.below hw1
    have hb1 := hb.below hw1
    have HT1 := Lib.hid (trim_nv ha1)
    have HT2 := Lib.hid (trim_nv hb1)
    have ht1 := ha1.trim
    have ht2 := hb1.trim
    obtain ⟨n', hn'⟩ : ∃ n', tn f n = n' := ⟨_, rfl⟩
    obtain ⟨m', hm'⟩ : ∃ m', tn g m = m' := ⟨_, rfl⟩
    have hav' : vb 4294967296 f n' = A := by rw [← hn', vb_tn, hav]
    have hbv' : vb 4294967296 g m' = B := by rw [← hm', vb_tn, hbv]
    have hl1 : n' ≤ 1024 := by rw [← hn']; exact Nat.le_of_not_lt (fun h => absurd ((lim_iff ha.lt).1 h) (by rw [hav]; exact (cd2_ok h0').1))
    have hl2 : m' ≤ 1024 := by rw [← hm']; exact Nat.le_of_not_lt (fun h => absurd ((lim_iff hb.lt).1 h) (by rw [hbv]; exact (cd2_ok h0').2))
    rw [hn'] at HT1 ht1
    rw [hm'] at HT2 ht2
    clear hn' hm' hav hbv ha hb ha1 hb1 h0'
    have hf1 : (n' : Int) ≤ 1024 := by have := hl1; omega
    have hf2 : (m' : Int) ≤ 1024 := by have := hl2; omega
    have HW1 := Lib.hid hw1; clear hw1
    have HA := Lib.hid ht1; clear ht1
    have HB := Lib.hid ht2; clear ht2
    have HAV := Lib.hid hav'; clear hav'
    have HBV := Lib.hid hbv'; clear hbv'
    obtain ⟨w1, hw1e⟩ : ∃ w1, w.alloc (.cells #[.slice a n ca, .slice b m cb] 23) = w1 := ⟨_, rfl⟩
    rw [hw1e] at HC HT1 HT2 HW1 HA HB
    go_enter Try.func19, Try.ntmps19
    go_wp2_with fail
    clear hw1e
    refine HC.out.mono ?_
    rintro e w' ⟨rfl, rfl⟩
    go_wp2_with fail
    refine HT1.out.mono ?_
    rintro e w' ⟨rfl, rfl⟩
    go_wp2_with fail
    refine HT2.out.mono ?_
    rintro e w' ⟨rfl, rfl⟩
    have HP := Lib.hid (product_any a n' ca b m' cb f g (by omega) (by omega) HA.out.lt HB.out.lt w1 HA.out.rd HB.out.rd HB.out.blk)
    go_wp2_with fail
    refine HP.out.mono ?_
    rintro e w2 ⟨g2, o, rfl, hg2, hwr, hol, hov, hb2⟩
    rw [HAV.out, HBV.out] at hov
    have hans := answer_nv (w := w2) (a := some ⟨g2, 0, none⟩) (n := n' + m') (cap := n' + m') (f := o) ⟨Nat.le_refl _, hwr.rd, fun q hq => by cases hq; exact hwr.1, hol, by omega⟩
    rw [hov] at hans
    have HANS := Lib.hid hans; clear hans hwr hol hov hg2
    have HB3 := Lib.hid (HW1.out.trans (hb2.mono HW1.out.size)); clear hb2
    go_wp2_with fail
    refine HANS.out.mono ?_
    rintro e w4 ⟨v, rfl, h1, h2, h3⟩
    have HF : Hid (Ans (cdN (A * B)) (A * B) w (.returned (.tuple #[v, .int .i64 (cdN (A * B) : Nat)])) w4) := Lib.hid (Ans.later ⟨v, rfl, h1, h2, h3⟩ HB3.out)
    clear h1 h2 h3
    go_wp2
    go_ret2
    exact HF.out
  · clear hc
    rw [if_neg h0]
    have e0 : ((c : Int) != 0) = true := by simp [h0]
    have H0 := Lib.hid h0; clear h0 hav hbv ha hb
    have HW1 := Lib.hid hw1; clear hw1
    go_enter Try.func19, Try.ntmps19
    go_wp2_with fail
    refine HC.out.mono ?_
    rintro e w' ⟨rfl, rfl⟩
    go_wp2
    go_ret2
    exact Ans.err H0.out HW1.out
end Go.Proofs.Ytgegkffigjogcaa

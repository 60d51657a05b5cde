/- bailiwicklaw05.RipemdChains answers true, whatever the lists. -/
import Derived.Test.YtnnbpofdnhnjlaaDoorRBlocks
import Derived.Test.YtnnbpofdnhnjlaaDoorROpenL
import Derived.Test.YtnnbpofdnhnjlaaDoorRRSum
namespace Go.Proofs.YtnnbpofdnhnjlaaDoor
open Go.RowKit

/-- All blocks' bytes. -/
def chn (N : Nat → Nat) (F : Nat → Nat → Nat) (t : Nat) : Nat := xl (F (t / 64)) (min (N (t / 64)) 64) (t % 64)
theorem chn_at (N : Nat → Nat) (F : Nat → Nat → Nat) (k j : Nat) (hj : j < 64) : chn N F (64 * k + j) = xl (F k) (min (N k) 64) j := by
  unfold chn
  rw [show (64 * k + j) / 64 = k by omega, show (64 * k + j) % 64 = j by omega]
theorem chn_lt {N : Nat → Nat} {F : Nat → Nat → Nat} (h : ∀ i j, F i j < 256) (t : Nat) : chn N F t < 256 := by
  unfold chn xl
  split
  · exact h _ _
  · omega
theorem p8_append {f g h : Nat → Nat} {n m : Nat} (h1 : ∀ j, j < n → h j = f j) (h2 : ∀ j, j < m → h (n + j) = g j) : p8 f n ++ p8 g m = p8 h (n + m) := by
  unfold p8
  rw [List.range_add, List.map_append, List.map_map]
  congr 1
  · apply List.map_congr_left
    intro j hj
    rw [h1 j (by simpa using hj)]
  · apply List.map_congr_left
    intro j hj
    show Value.int .u8 ((g j : Nat) : Int) = Value.int .u8 ((h (n + j) : Nat) : Int)
    rw [h2 j (by simpa using hj)]
/-- What ends m whole blocks. -/
def endB (m j : Nat) : Nat := if j = 0 then 128 else if j = 57 then 2 * m else 0
theorem wrap8_0 {y k : Nat} (hy : 64 * k = y) : wrap64 ((y : Int) * 8) % 256 = 0 := by
  unfold wrap64
  omega
theorem hsh_succ (h : Nat → Int) (f : Nat → Nat) (k : Nat) : hsh h f (k + 1) = blk (hsh h f k) (fun j => ((xw (fun i => f (64 * k + i)) j : Nat) : Int)) := rfl
theorem blk_bd (h x : Nat → Int) (j : Nat) : 0 ≤ blk h x j ∧ blk h x j < 4294967296 := by
  unfold blk mrg
  omega
set_option maxRecDepth 100000 in
theorem chain_end {A : Nat → Nat} {m : Nat} (hm : m ≤ 6) : rsum A (64 * m) = jn (blk (hsh iniT A m) fun j => ((xw (endB m) j : Nat) : Int)) := by
  have h1 : plen (64 * m) = 64 * m + 64 := by unfold plen; omega
  have h2 : (64 * m + 64) / 64 = m + 1 := by omega
  unfold rsum
  rw [h1, h2]
  obtain ⟨P, hP⟩ : ∃ P, pad A (64 * m) (64 * m + 64) (64 * m) = P := ⟨_, rfl⟩
  rw [hP]
  have e : hsh iniT P m = hsh iniT A m := hsh_congr _ _ fun i hi => by rw [← hP]; exact pad_f hi
  rw [hsh_succ, e]
  refine congrArg jn (blk_congr _ fun j hj => ?_)
  rw [xw_congr (f := fun i => P (64 * m + i)) (g := endB m) j (fun i hi => ?_)]
  obtain ⟨y, hy⟩ : ∃ y, 4 * j + i = y := ⟨_, rfl⟩
  have hy64 : y < 64 := by omega
  show P (64 * m + (4 * j + i)) = endB m (4 * j + i)
  rw [hy, ← hP]
  unfold endB
  by_cases h0 : y = 0
  · rw [if_pos h0, h0]
    exact pad_n _ _ _ _
  · rw [if_neg h0]
    by_cases h3 : y < 56
    · rw [pad_0 (by omega) (by omega), if_neg (by omega)]
    · rw [pad_m (k := y - 56) (by omega) (by omega)]
      by_cases h4 : y = 56
      · subst h4
        rw [if_neg (by omega)]
        show 8 * (64 * m) / 2 ^ (8 * (56 - 56)) % 256 = 0
        simp
        omega
      · by_cases h5 : y = 57
        · subst h5
          rw [if_pos rfl]
          show 8 * (64 * m) / 2 ^ (8 * (57 - 56)) % 256 = 2 * m
          simp
          omega
        · rw [if_neg h5]
          have h6 : 2 ^ 16 ≤ 2 ^ (8 * (y - 56)) := Nat.pow_le_pow_right (by omega) (by omega)
          rw [Nat.div_eq_of_lt (by have : (2 : Nat) ^ 16 = 65536 := rfl; omega)]
/-- The worlds of the chain, behind k blocks. -/
structure CH (w : World) (A : Nat → Nat) (k : Nat) (v : Value) (wx : World) : Prop where
  old : Below w.heap.size w wx
  rH : wx.heap[w.heap.size]? = some (.cells (ar .u32 5 (hsh iniT A k)) 47 (0, 0))
  own : Own8 (w.heap.size + 1) A (64 * k) v wx
theorem CH.high {w wx : World} {A : Nat → Nat} {k : Nat} {v : Value} (c : CH w A k v wx) : w.heap.size + 1 ≤ wx.heap.size := (Array.getElem?_eq_some_iff.1 c.rH).1
theorem own8_keep {base n : Nat} {f : Nat → Nat} {v : Value} {wa wb : World} (h : ∀ k, base ≤ k → k < wa.heap.size → wb.heap[k]? = wa.heap[k]?) (ho : Own8 base f n v wa) : Own8 base f n v wb := by
  refine ⟨ho.1, ?_⟩
  rcases ho.2 with h1 | ⟨g, cap, cur, h1, h2, h3, h4⟩
  · exact .inl h1
  · exact .inr ⟨g, cap, cur, h1, h2, (h g h2 (Array.getElem?_eq_some_iff.1 h3).1).trans h3, h4⟩
theorem CH.below {w wx w' : World} {A : Nat → Nat} {k : Nat} {v : Value} (c : CH w A k v wx) (hb : Below wx.heap.size wx w') : CH w A k v w' := by
  have l := c.high
  exact ⟨c.old.trans (hb.mono (by omega)), (hb.block _ (by omega)).trans c.rH, own8_keep (fun k _ hk => hb.block k hk) c.own⟩
structure CHb (w : World) (p : Nat → Int) (A : Nat → Nat) (k : Nat) (v : Value) (wx : World) : Prop where
  old : Below w.heap.size w wx
  rH : wx.heap[w.heap.size]? = some (.cells (ar .u32 5 p) 47 (0, 0))
  own : Own8 (w.heap.size + 1) A (64 * k) v wx
theorem CHb.high {w wx : World} {p : Nat → Int} {A : Nat → Nat} {k : Nat} {v : Value} (c : CHb w p A k v wx) : w.heap.size + 1 ≤ wx.heap.size := (Array.getElem?_eq_some_iff.1 c.rH).1
set_option maxRecDepth 100000 in
set_option maxHeartbeats 4000000 in
theorem chains_le {n : Nat} {v : Value} {w : World} (hT : Tabs w) (hn6 : ¬ 6 < n) (hL : ∃ a cap U N F, v = .slice a n cap ∧ n ≤ cap ∧ ArgL w a n U N F) : Calls Tryd.prog 10 #[v] w fun e w' => e = .returned (.bool true) ∧ Below w.heap.size w w' := by
  obtain ⟨al, cap, U, N, F, rfl, hcap, hA0⟩ := hL
  have HT := Lib.hid hT
  obtain ⟨i0, hi, hz0, hz1, hz2⟩ := info_partsB info8
  have HA := Lib.hid hA0
  clear hT hA0
  have hn6' : ¬ (6 : Int) < n := by omega
  have hm6 : n ≤ 6 := by omega
  go_enter Tryd.func10, Tryd.ntmps10
  have hA : ∀ j, chn N F j < 256 := chn_lt HA.out.lt
  have hAat := fun k j hj => chn_at N F k j hj
  obtain ⟨A, hAe⟩ : ∃ A, chn N F = A := ⟨_, rfl⟩
  rw [hAe] at hA hAat
  have HAl := Lib.hid hA
  have HAat := Lib.hid hAat
  clear hAe hA hAat
  have HS := Lib.hid (show CH w A 0 (.slice (some ⟨w.heap.size + 1, 0, none⟩) 0 0) ((w.alloc (.cells #[.int .u32 1732584193, .int .u32 4023233417, .int .u32 2562383102, .int .u32 271733878, .int .u32 3285377520] 47)).alloc (.cells #[] 5)) from by
    refine ⟨by go_grown, ?_, ?_⟩
    · show _ = some (Obj.cells (ar .u32 5 iniT) 47 (0, 0))
      rw [ini_lit]
      exact heap_alloc2_old _ _ _
    · have h1 := World.ownsRow_made (base := w.heap.size + 1) (e := 5) (size := 1) (w.alloc (.cells #[.int .u32 1732584193, .int .u32 4023233417, .int .u32 2562383102, .int .u32 271733878, .int .u32 3285377520] 47)) #[] 0 (by simp) (by decide) (by simp)
      simpa [Own8, p8] using h1)
  go_wp2_with fail
  go_loopw [4, 5] (fun v i wr => ∃ k g q : Nat, k ≤ n ∧ i = .int .i64 k ∧ v = .slice (some ⟨g, 0, none⟩) (64 * k) q ∧ Hid (CH w A k v wr)) (fun _ i _ => n - (intOf i).toNat)
  case atStart => exact ⟨0, _, _, by omega, rfl, rfl, HS⟩
  case round =>
    obtain ⟨k, g, q, hk, rfl, rfl, H⟩ := hrel
    clear HS
    have hk0 : (0 : Int) ≤ k := by omega
    by_cases hlt : k < n
    · have hlt' : (k : Int) < n := by omega
      obtain ⟨lb, lo, hal, hlb, hlc⟩ := HA.out.at_ k hlt
      subst hal
      obtain ⟨ea, ecap, hU, hec, -, hR⟩ := HA.out.arg k hlt
      rw [hU] at hlc
      have HR := Lib.hid hR
      obtain ⟨nk, hnk⟩ : ∃ x, N k = x := ⟨_, rfl⟩
      obtain ⟨fk, hfk⟩ : ∃ x, F k = x := ⟨_, rfl⟩
      rw [hnk, hfk] at HR
      rw [hnk] at hlc
      have HLC := Lib.hid (And.intro hlb hlc)
      have HXA := Lib.hid (show ∀ j, j < 64 → A (64 * k + j) = xl fk (min nk 64) j from fun j hj => by rw [HAat.out k j hj, hnk, hfk])
      have HFL := Lib.hid (show ∀ j, fk j < 256 from fun j => by rw [← hfk]; exact HA.out.lt k j)
      have hixl : ∀ w, (Instr.indexAt 51 (.slice (some ⟨lb, lo, none⟩) n cap) (.int .i64 (k : Int))).run Tryd.prog w = .ok (.pointer (some ⟨lb, lo + k, none⟩)) w := fun w => by
        go_simp
      clear hlc hlb hU hec hR hnk hfk
      obtain ⟨X, hXe⟩ : ∃ X, wr.heap.size = X := ⟨_, rfl⟩
      have hXh : w.heap.size + 1 ≤ X := by rw [← hXe]; exact H.out.high
      have hx0 : (wr.alloc (.cells #[.int .u8 0, .int .u8 0, .int .u8 0, .int .u8 0, .int .u8 0, .int .u8 0, .int .u8 0, .int .u8 0, .int .u8 0, .int .u8 0, .int .u8 0, .int .u8 0, .int .u8 0, .int .u8 0, .int .u8 0, .int .u8 0, .int .u8 0, .int .u8 0, .int .u8 0, .int .u8 0, .int .u8 0, .int .u8 0, .int .u8 0, .int .u8 0, .int .u8 0, .int .u8 0, .int .u8 0, .int .u8 0, .int .u8 0, .int .u8 0, .int .u8 0, .int .u8 0, .int .u8 0, .int .u8 0, .int .u8 0, .int .u8 0, .int .u8 0, .int .u8 0, .int .u8 0, .int .u8 0, .int .u8 0, .int .u8 0, .int .u8 0, .int .u8 0, .int .u8 0, .int .u8 0, .int .u8 0, .int .u8 0, .int .u8 0, .int .u8 0, .int .u8 0, .int .u8 0, .int .u8 0, .int .u8 0, .int .u8 0, .int .u8 0, .int .u8 0, .int .u8 0, .int .u8 0, .int .u8 0, .int .u8 0, .int .u8 0, .int .u8 0, .int .u8 0] 48)).heap[X]? = some (.cells #[.int .u8 0, .int .u8 0, .int .u8 0, .int .u8 0, .int .u8 0, .int .u8 0, .int .u8 0, .int .u8 0, .int .u8 0, .int .u8 0, .int .u8 0, .int .u8 0, .int .u8 0, .int .u8 0, .int .u8 0, .int .u8 0, .int .u8 0, .int .u8 0, .int .u8 0, .int .u8 0, .int .u8 0, .int .u8 0, .int .u8 0, .int .u8 0, .int .u8 0, .int .u8 0, .int .u8 0, .int .u8 0, .int .u8 0, .int .u8 0, .int .u8 0, .int .u8 0, .int .u8 0, .int .u8 0, .int .u8 0, .int .u8 0, .int .u8 0, .int .u8 0, .int .u8 0, .int .u8 0, .int .u8 0, .int .u8 0, .int .u8 0, .int .u8 0, .int .u8 0, .int .u8 0, .int .u8 0, .int .u8 0, .int .u8 0, .int .u8 0, .int .u8 0, .int .u8 0, .int .u8 0, .int .u8 0, .int .u8 0, .int .u8 0, .int .u8 0, .int .u8 0, .int .u8 0, .int .u8 0, .int .u8 0, .int .u8 0, .int .u8 0, .int .u8 0] 48 (0, 0)) := by rw [← hXe]; exact heap_alloc_new _ _
      have HC1 := Lib.hid (H.out.below ((Below.refl _ _).alloc (Nat.le_refl _) (.cells #[.int .u8 0, .int .u8 0, .int .u8 0, .int .u8 0, .int .u8 0, .int .u8 0, .int .u8 0, .int .u8 0, .int .u8 0, .int .u8 0, .int .u8 0, .int .u8 0, .int .u8 0, .int .u8 0, .int .u8 0, .int .u8 0, .int .u8 0, .int .u8 0, .int .u8 0, .int .u8 0, .int .u8 0, .int .u8 0, .int .u8 0, .int .u8 0, .int .u8 0, .int .u8 0, .int .u8 0, .int .u8 0, .int .u8 0, .int .u8 0, .int .u8 0, .int .u8 0, .int .u8 0, .int .u8 0, .int .u8 0, .int .u8 0, .int .u8 0, .int .u8 0, .int .u8 0, .int .u8 0, .int .u8 0, .int .u8 0, .int .u8 0, .int .u8 0, .int .u8 0, .int .u8 0, .int .u8 0, .int .u8 0, .int .u8 0, .int .u8 0, .int .u8 0, .int .u8 0, .int .u8 0, .int .u8 0, .int .u8 0, .int .u8 0, .int .u8 0, .int .u8 0, .int .u8 0, .int .u8 0, .int .u8 0, .int .u8 0, .int .u8 0, .int .u8 0] 48)))
      have HX0 := Lib.hid (show CH w A k (.slice (some ⟨g, 0, none⟩) (64 * k) q) ((wr.alloc (.cells #[.int .u8 0, .int .u8 0, .int .u8 0, .int .u8 0, .int .u8 0, .int .u8 0, .int .u8 0, .int .u8 0, .int .u8 0, .int .u8 0, .int .u8 0, .int .u8 0, .int .u8 0, .int .u8 0, .int .u8 0, .int .u8 0, .int .u8 0, .int .u8 0, .int .u8 0, .int .u8 0, .int .u8 0, .int .u8 0, .int .u8 0, .int .u8 0, .int .u8 0, .int .u8 0, .int .u8 0, .int .u8 0, .int .u8 0, .int .u8 0, .int .u8 0, .int .u8 0, .int .u8 0, .int .u8 0, .int .u8 0, .int .u8 0, .int .u8 0, .int .u8 0, .int .u8 0, .int .u8 0, .int .u8 0, .int .u8 0, .int .u8 0, .int .u8 0, .int .u8 0, .int .u8 0, .int .u8 0, .int .u8 0, .int .u8 0, .int .u8 0, .int .u8 0, .int .u8 0, .int .u8 0, .int .u8 0, .int .u8 0, .int .u8 0, .int .u8 0, .int .u8 0, .int .u8 0, .int .u8 0, .int .u8 0, .int .u8 0, .int .u8 0, .int .u8 0] 48)).setRow X (ar .u8 64 fun j => (xl fk 0 j : Nat))) ∧ ((wr.alloc (.cells #[.int .u8 0, .int .u8 0, .int .u8 0, .int .u8 0, .int .u8 0, .int .u8 0, .int .u8 0, .int .u8 0, .int .u8 0, .int .u8 0, .int .u8 0, .int .u8 0, .int .u8 0, .int .u8 0, .int .u8 0, .int .u8 0, .int .u8 0, .int .u8 0, .int .u8 0, .int .u8 0, .int .u8 0, .int .u8 0, .int .u8 0, .int .u8 0, .int .u8 0, .int .u8 0, .int .u8 0, .int .u8 0, .int .u8 0, .int .u8 0, .int .u8 0, .int .u8 0, .int .u8 0, .int .u8 0, .int .u8 0, .int .u8 0, .int .u8 0, .int .u8 0, .int .u8 0, .int .u8 0, .int .u8 0, .int .u8 0, .int .u8 0, .int .u8 0, .int .u8 0, .int .u8 0, .int .u8 0, .int .u8 0, .int .u8 0, .int .u8 0, .int .u8 0, .int .u8 0, .int .u8 0, .int .u8 0, .int .u8 0, .int .u8 0, .int .u8 0, .int .u8 0, .int .u8 0, .int .u8 0, .int .u8 0, .int .u8 0, .int .u8 0, .int .u8 0] 48)).setRow X (ar .u8 64 fun j => (xl fk 0 j : Nat))).heap[X]? = some (.cells (ar .u8 64 fun j => (xl fk 0 j : Nat)) 48 (0, 0)) from by
        refine ⟨⟨below_setRow HC1.out.old (by omega) _, (setRow_other _ _ _ _ (by omega)).trans HC1.out.rH, ?_⟩, setRow_heap _ _ _ _ _ _ hx0⟩
        refine ⟨HC1.out.own.1, ?_⟩
        have hgX := (H.out.own.lt g rfl).2
        rcases HC1.out.own.2 with h1 | ⟨g', cap', cur, h1, h2, h3, h4⟩
        · exact .inl h1
        · have e : g = g' := by injection h1 with h1; injection h1 with h1; injection h1
          exact .inr ⟨g', cap', cur, h1, h2, (setRow_other _ _ _ _ (by omega)).trans h3, h4⟩)
      have HXX := Lib.hid (And.intro hXe hx0)
      have HV0 : Hid ((.agg #[.int .u8 0, .int .u8 0, .int .u8 0, .int .u8 0, .int .u8 0, .int .u8 0, .int .u8 0, .int .u8 0, .int .u8 0, .int .u8 0, .int .u8 0, .int .u8 0, .int .u8 0, .int .u8 0, .int .u8 0, .int .u8 0, .int .u8 0, .int .u8 0, .int .u8 0, .int .u8 0, .int .u8 0, .int .u8 0, .int .u8 0, .int .u8 0, .int .u8 0, .int .u8 0, .int .u8 0, .int .u8 0, .int .u8 0, .int .u8 0, .int .u8 0, .int .u8 0, .int .u8 0, .int .u8 0, .int .u8 0, .int .u8 0, .int .u8 0, .int .u8 0, .int .u8 0, .int .u8 0, .int .u8 0, .int .u8 0, .int .u8 0, .int .u8 0, .int .u8 0, .int .u8 0, .int .u8 0, .int .u8 0, .int .u8 0, .int .u8 0, .int .u8 0, .int .u8 0, .int .u8 0, .int .u8 0, .int .u8 0, .int .u8 0, .int .u8 0, .int .u8 0, .int .u8 0, .int .u8 0, .int .u8 0, .int .u8 0, .int .u8 0, .int .u8 0] : Value) = .agg (ar .u8 64 fun j => (xl fk 0 j : Nat))) := Lib.hid (by kernel_rfl)
      have HGX := Lib.hid (show g < X from by rw [← hXe]; exact (H.out.own.lt g rfl).2)
      clear hx0 H hXe HC1
      go_wp2_with (refine wpList_store_row rfl 48 _ _ rfl X (ar .u8 64 fun j => (xl fk 0 j : Nat)) (by rw [← HXX.out.1]; kernel_rfl) (Eq.trans (by kernel_rfl) HV0.out) 48 _ HXX.out.2 (by rw [ar_size]; exact info64) (by rw [ar_size]; rfl) (ar_one _ _ _) ?_)
      rw [HXX.out.1]
      obtain ⟨w2, hw2⟩ : ∃ w2, ((wr.alloc (.cells #[.int .u8 0, .int .u8 0, .int .u8 0, .int .u8 0, .int .u8 0, .int .u8 0, .int .u8 0, .int .u8 0, .int .u8 0, .int .u8 0, .int .u8 0, .int .u8 0, .int .u8 0, .int .u8 0, .int .u8 0, .int .u8 0, .int .u8 0, .int .u8 0, .int .u8 0, .int .u8 0, .int .u8 0, .int .u8 0, .int .u8 0, .int .u8 0, .int .u8 0, .int .u8 0, .int .u8 0, .int .u8 0, .int .u8 0, .int .u8 0, .int .u8 0, .int .u8 0, .int .u8 0, .int .u8 0, .int .u8 0, .int .u8 0, .int .u8 0, .int .u8 0, .int .u8 0, .int .u8 0, .int .u8 0, .int .u8 0, .int .u8 0, .int .u8 0, .int .u8 0, .int .u8 0, .int .u8 0, .int .u8 0, .int .u8 0, .int .u8 0, .int .u8 0, .int .u8 0, .int .u8 0, .int .u8 0, .int .u8 0, .int .u8 0, .int .u8 0, .int .u8 0, .int .u8 0, .int .u8 0, .int .u8 0, .int .u8 0, .int .u8 0, .int .u8 0] 48)).setRow X (ar .u8 64 fun j => (xl fk 0 j : Nat))) = w2 := ⟨_, rfl⟩
      rw [hw2] at HX0 ⊢
      clear hw2 HXX HV0
      go_loopw [7] (fun i wx => ∃ j : Nat, j ≤ nk ∧ j ≤ 64 ∧ i = .int .i64 j ∧ Hid (CH w A k (.slice (some ⟨g, 0, none⟩) (64 * k) q) wx ∧ wx.heap[X]? = some (.cells (ar .u8 64 fun t => (xl fk j t : Nat)) 48 (0, 0)))) (fun i _ => 64 - (intOf i).toNat)
      case atStart => exact ⟨0, by omega, by omega, rfl, HX0⟩
      case round =>
        obtain ⟨j, hj, hj64, rfl, H⟩ := hrel
        clear HX0
        have hj0 : (0 : Int) ≤ j := by omega
        have cl := (H.out.1.old.cell (p := ⟨lb, lo + k, none⟩) HLC.out.1).trans HLC.out.2
        by_cases hjn : j < nk
        · have hjn' : (j : Int) < nk := by omega
          by_cases hjl : j < 64
          · have hjl' : (j : Int) < 64 := by omega
            obtain ⟨p, hix, hpb, cp⟩ := HR.out.at_ ecap j hjn
            have ci := (H.out.1.old.cell hpb).trans cp
            have co : wr.cell? ⟨X, j, none⟩ = some (.int .u8 (xl fk j j : Nat)) := (cell_of_row wr _ j _ _ _ H.out.2).trans (ar_at _ _ _ _ hjl)
            have fo : wr.frozen? ⟨X, j, none⟩ = false := frozen_of_row wr _ j _ _ H.out.2
            clear cp hpb
            go_wp2_with fail
            go_roundw
            case rel =>
              refine ⟨j + 1, by omega, by omega, by go_num, Lib.hid ⟨⟨H.out.1.old.setCell (by show w.heap.size ≤ X; omega) _, (heap_setCell_other _ _ _ _ (by show w.heap.size ≠ X; omega)).trans H.out.1.rH, ?_⟩, ?_⟩⟩
              · refine ⟨H.out.1.own.1, ?_⟩
                rcases H.out.1.own.2 with h1 | ⟨g', cap', cur, h1, h2, h3, h4⟩
                · exact .inl h1
                · have e : g = g' := by injection h1 with h1; injection h1 with h1; injection h1
                  exact .inr ⟨g', cap', cur, h1, h2, (heap_setCell_other _ _ _ _ (by have := HGX.out; show g' ≠ X; omega)).trans h3, h4⟩
              · refine (heap_setCell_same _ _ _ _ _ _ H.out.2).trans ?_
                rw [ar_set _ _ _ _ _ hjl]
                congr 2
                exact ar_congr (fun t _ => xl_next t)
            case measure => simp [intOf]; omega
          · have hjl' : ¬ (j : Int) < 64 := by omega
            have hmin : j = min nk 64 := by omega
            obtain ⟨xf, hxf⟩ : ∃ xf, xl fk j = xf := ⟨_, rfl⟩
            have HXF2 := Lib.hid (show ∀ t, t < 64 → A (64 * k + t) = xf t from fun t ht => by rw [HXA.out t ht, ← hmin, hxf])
            have hxl : ∀ t, xf t < 256 := fun t => by rw [← hxf]; unfold xl; have := HFL.out t; split <;> omega
            rw [hxf] at H
            have HBL := Lib.hid (show ∀ wx, Below w.heap.size w wx → Calls Tryd.prog 34 #[.agg (ar .u32 5 (hsh iniT A k)), .agg (ar .u8 64 fun t => (xf t : Nat))] wx (fun e w' => e = .returned (.agg (ar .u32 5 (hsh iniT A (k + 1)))) ∧ Below wx.heap.size wx w') from fun wx hb => by
              have e : hsh iniT A (k + 1) = blk (hsh iniT A k) (fun t => ((xw xf t : Nat) : Int)) := by
                show blk (hsh iniT A k) _ = _
                exact blk_congr _ fun t ht => by rw [xw_congr (f := fun i => A (64 * k + i)) (g := xf) t (fun i hi => HXF2.out _ (by omega))]
              rw [e]
              exact block_any (hsh iniT A k) xf hxl wx (HT.out.below hb))
            have HH := Lib.hid (And.intro H.out.1.rH H.out.2)
            have HI64 : Hid ((Tryd.prog.info? 48).map (·.size) = some (ar .u8 64 fun t => (xf t : Nat)).size) := Lib.hid (by rw [ar_size]; exact info64)
            have HAX : Hid (p8 A (64 * k) ++ p8 xf 64 = p8 A (64 * (k + 1))) := Lib.hid (by rw [show 64 * (k + 1) = 64 * k + 64 by omega]; exact p8_append (fun _ _ => rfl) HXF2.out)
            clear hxf hxl HXF2 hmin
            obtain ⟨p', hp'⟩ : ∃ p, hsh iniT A (k + 1) = p := ⟨_, rfl⟩
            rw [hp'] at HBL
            have HP' := Lib.hid hp'
            clear hp'
            go_wp2_with (first | (refine wpList_load_row rfl 47 _ rfl w.heap.size rfl 47 _ (0, 0) _ HH.out.1 Tryd.underlying47 rfl (by rw [ar_size]; exact info5) ?_) | (refine wpList_load_row rfl 48 _ rfl X rfl 48 _ (0, 0) _ HH.out.2 Tryd.underlying48 rfl HI64.out ?_))
            refine (HBL.out _ H.out.1.old).mono ?_
            rintro e w5 ⟨rfl, hb5⟩
            have HC5 := Lib.hid (H.out.1.below hb5)
            have hx5 : w5.heap[X]? = some (.cells (ar .u8 64 fun t => (xf t : Nat)) 48 (0, 0)) := (hb5.block _ (Array.getElem?_eq_some_iff.1 H.out.2).1).trans H.out.2
            have HX5 := Lib.hid hx5
            clear hb5 hx5 H HH
            have HC6 := Lib.hid (show CHb w p' A k (.slice (some ⟨g, 0, none⟩) (64 * k) q) (w5.setRow w.heap.size (ar .u32 5 p')) from ⟨below_setRow HC5.out.old (Nat.le_refl _) _, setRow_heap _ _ _ _ _ _ HC5.out.rH, own8_keep (fun k hk _ => setRow_other _ _ _ _ (by omega)) HC5.out.own⟩)
            have HX6 := Lib.hid (show X < (w5.setRow w.heap.size (ar .u32 5 p')).heap.size ∧ ∀ t, t < 64 → (w5.setRow w.heap.size (ar .u32 5 p')).cell? ⟨X, 0 + t, none⟩ = some (.int .u8 (xf t : Nat)) from by
              have h1 : (w5.setRow w.heap.size (ar .u32 5 p')).heap[X]? = some (.cells (ar .u8 64 fun t => (xf t : Nat)) 48 (0, 0)) := (setRow_other _ _ _ _ (by omega)).trans HX5.out
              exact ⟨(Array.getElem?_eq_some_iff.1 h1).1, fun t ht => by rw [Nat.zero_add]; exact (cell_of_row _ _ t _ _ _ h1).trans (ar_at _ _ _ _ ht)⟩)
            go_wp2_with (first | (refine wpList_store_row rfl 47 _ _ rfl w.heap.size (ar .u32 5 p') rfl rfl 47 _ HC5.out.rH (by rw [ar_size]; exact info5) (by rw [ar_size, ar_size]) (ar_one _ _ _) ?_) | (at_builtin; refine wpList_append_lies _ rfl _ _ 22 rfl (w.heap.size + 1) 5 i0 (.int .u8 0) 1 1 Tryd.underlying22 hi hz0 hz1 hz2 rfl (by decide) _ (64 * k) (p8 A (64 * k)) rfl HC6.out.own ⟨X, 0, none⟩ 64 64 (p8 xf 64) rfl (by rw [p8_len]) (p8_news (.inr ⟨X, 0, rfl, HX6.out.1, HX6.out.2⟩)) (p8_one _ _) (by omega) (by unfold maxLen; omega) (by omega) HC6.out.high _ rfl ?_; intro g2 c2 w3 hown3 hgrow hat hlt3; (have hb3 : Below w.heap.size w w3 := HC6.out.old.grown hgrow HC6.out.old.size (fun j hj => Nat.le_of_succ_le (HC6.out.own.lt j hj).1)); (have hr3 := (hgrow.block w.heap.size HC6.out.high (fun e => Nat.not_succ_le_self _ (HC6.out.own.lt _ e.symm).1)).trans HC6.out.rH); (rw [HAX.out] at hown3); (have HC7 := Lib.hid (And.intro hb3 (And.intro hr3 hown3))); clear hgrow hat hlt3 hown3 hb3 hr3))
            go_roundw
            case rel =>
              refine ⟨k + 1, g2, c2, by omega, by go_num, rfl, Lib.hid ⟨HC7.out.1, ?_, HC7.out.2.2⟩⟩
              rw [HP'.out]
              exact HC7.out.2.1
            case measure => simp [intOf]; omega
        · have hjn' : ¬ (j : Int) < nk := by omega
          have hmin : j = min nk 64 := by omega
          obtain ⟨xf, hxf⟩ : ∃ xf, xl fk j = xf := ⟨_, rfl⟩
          have HXF2 := Lib.hid (show ∀ t, t < 64 → A (64 * k + t) = xf t from fun t ht => by rw [HXA.out t ht, ← hmin, hxf])
          have hxl : ∀ t, xf t < 256 := fun t => by rw [← hxf]; unfold xl; have := HFL.out t; split <;> omega
          rw [hxf] at H
          have HBL := Lib.hid (show ∀ wx, Below w.heap.size w wx → Calls Tryd.prog 34 #[.agg (ar .u32 5 (hsh iniT A k)), .agg (ar .u8 64 fun t => (xf t : Nat))] wx (fun e w' => e = .returned (.agg (ar .u32 5 (hsh iniT A (k + 1)))) ∧ Below wx.heap.size wx w') from fun wx hb => by
            have e : hsh iniT A (k + 1) = blk (hsh iniT A k) (fun t => ((xw xf t : Nat) : Int)) := by
              show blk (hsh iniT A k) _ = _
              exact blk_congr _ fun t ht => by rw [xw_congr (f := fun i => A (64 * k + i)) (g := xf) t (fun i hi => HXF2.out _ (by omega))]
            rw [e]
            exact block_any (hsh iniT A k) xf hxl wx (HT.out.below hb))
          have HH := Lib.hid (And.intro H.out.1.rH H.out.2)
          have HI64 : Hid ((Tryd.prog.info? 48).map (·.size) = some (ar .u8 64 fun t => (xf t : Nat)).size) := Lib.hid (by rw [ar_size]; exact info64)
          have HAX : Hid (p8 A (64 * k) ++ p8 xf 64 = p8 A (64 * (k + 1))) := Lib.hid (by rw [show 64 * (k + 1) = 64 * k + 64 by omega]; exact p8_append (fun _ _ => rfl) HXF2.out)
          clear hxf hxl HXF2 hmin
          obtain ⟨p', hp'⟩ : ∃ p, hsh iniT A (k + 1) = p := ⟨_, rfl⟩
          rw [hp'] at HBL
          have HP' := Lib.hid hp'
          clear hp'
          go_wp2_with (first | (refine wpList_load_row rfl 47 _ rfl w.heap.size rfl 47 _ (0, 0) _ HH.out.1 Tryd.underlying47 rfl (by rw [ar_size]; exact info5) ?_) | (refine wpList_load_row rfl 48 _ rfl X rfl 48 _ (0, 0) _ HH.out.2 Tryd.underlying48 rfl HI64.out ?_))
          refine (HBL.out _ H.out.1.old).mono ?_
          rintro e w5 ⟨rfl, hb5⟩
          have HC5 := Lib.hid (H.out.1.below hb5)
          have hx5 : w5.heap[X]? = some (.cells (ar .u8 64 fun t => (xf t : Nat)) 48 (0, 0)) := (hb5.block _ (Array.getElem?_eq_some_iff.1 H.out.2).1).trans H.out.2
          have HX5 := Lib.hid hx5
          clear hb5 hx5 H HH
          have HC6 := Lib.hid (show CHb w p' A k (.slice (some ⟨g, 0, none⟩) (64 * k) q) (w5.setRow w.heap.size (ar .u32 5 p')) from ⟨below_setRow HC5.out.old (Nat.le_refl _) _, setRow_heap _ _ _ _ _ _ HC5.out.rH, own8_keep (fun k hk _ => setRow_other _ _ _ _ (by omega)) HC5.out.own⟩)
          have HX6 := Lib.hid (show X < (w5.setRow w.heap.size (ar .u32 5 p')).heap.size ∧ ∀ t, t < 64 → (w5.setRow w.heap.size (ar .u32 5 p')).cell? ⟨X, 0 + t, none⟩ = some (.int .u8 (xf t : Nat)) from by
            have h1 : (w5.setRow w.heap.size (ar .u32 5 p')).heap[X]? = some (.cells (ar .u8 64 fun t => (xf t : Nat)) 48 (0, 0)) := (setRow_other _ _ _ _ (by omega)).trans HX5.out
            exact ⟨(Array.getElem?_eq_some_iff.1 h1).1, fun t ht => by rw [Nat.zero_add]; exact (cell_of_row _ _ t _ _ _ h1).trans (ar_at _ _ _ _ ht)⟩)
          go_wp2_with (first | (refine wpList_store_row rfl 47 _ _ rfl w.heap.size (ar .u32 5 p') rfl rfl 47 _ HC5.out.rH (by rw [ar_size]; exact info5) (by rw [ar_size, ar_size]) (ar_one _ _ _) ?_) | (at_builtin; refine wpList_append_lies _ rfl _ _ 22 rfl (w.heap.size + 1) 5 i0 (.int .u8 0) 1 1 Tryd.underlying22 hi hz0 hz1 hz2 rfl (by decide) _ (64 * k) (p8 A (64 * k)) rfl HC6.out.own ⟨X, 0, none⟩ 64 64 (p8 xf 64) rfl (by rw [p8_len]) (p8_news (.inr ⟨X, 0, rfl, HX6.out.1, HX6.out.2⟩)) (p8_one _ _) (by omega) (by unfold maxLen; omega) (by omega) HC6.out.high _ rfl ?_; intro g2 c2 w3 hown3 hgrow hat hlt3; (have hb3 : Below w.heap.size w w3 := HC6.out.old.grown hgrow HC6.out.old.size (fun j hj => Nat.le_of_succ_le (HC6.out.own.lt j hj).1)); (have hr3 := (hgrow.block w.heap.size HC6.out.high (fun e => Nat.not_succ_le_self _ (HC6.out.own.lt _ e.symm).1)).trans HC6.out.rH); (rw [HAX.out] at hown3); (have HC7 := Lib.hid (And.intro hb3 (And.intro hr3 hown3))); clear hgrow hat hlt3 hown3 hb3 hr3))
          go_roundw
          case rel =>
            refine ⟨k + 1, g2, c2, by omega, by go_num, rfl, Lib.hid ⟨HC7.out.1, ?_, HC7.out.2.2⟩⟩
            rw [HP'.out]
            exact HC7.out.2.1
          case measure => simp [intOf]; omega
    · obtain rfl : k = n := by omega
      have hlt' : ¬ (k : Int) < k := by omega
      obtain ⟨y, hy⟩ : ∃ y, 64 * k = y := ⟨_, rfl⟩
      obtain ⟨u, hu⟩ : ∃ u, 2 * k = u := ⟨_, rfl⟩
      have f1 : (y : Int) / 32 = (u : Int) := by omega
      have f2 : IntKind.u8.wrap (u : Int) = (u : Int) := by rw [IntKind.wrap_u8]; omega
      have f3 : wrap64 ((y : Int) * 8) % 256 = 0 := wrap8_0 hy
      have hXh := H.out.high
      have hx1 : (wr.alloc (.cells #[.int .u8 0, .int .u8 0, .int .u8 0, .int .u8 0, .int .u8 0, .int .u8 0, .int .u8 0, .int .u8 0, .int .u8 0, .int .u8 0, .int .u8 0, .int .u8 0, .int .u8 0, .int .u8 0, .int .u8 0, .int .u8 0, .int .u8 0, .int .u8 0, .int .u8 0, .int .u8 0, .int .u8 0, .int .u8 0, .int .u8 0, .int .u8 0, .int .u8 0, .int .u8 0, .int .u8 0, .int .u8 0, .int .u8 0, .int .u8 0, .int .u8 0, .int .u8 0, .int .u8 0, .int .u8 0, .int .u8 0, .int .u8 0, .int .u8 0, .int .u8 0, .int .u8 0, .int .u8 0, .int .u8 0, .int .u8 0, .int .u8 0, .int .u8 0, .int .u8 0, .int .u8 0, .int .u8 0, .int .u8 0, .int .u8 0, .int .u8 0, .int .u8 0, .int .u8 0, .int .u8 0, .int .u8 0, .int .u8 0, .int .u8 0, .int .u8 0, .int .u8 0, .int .u8 0, .int .u8 0, .int .u8 0, .int .u8 0, .int .u8 0, .int .u8 0] 48)).heap[wr.heap.size]? = some (.cells #[.int .u8 0, .int .u8 0, .int .u8 0, .int .u8 0, .int .u8 0, .int .u8 0, .int .u8 0, .int .u8 0, .int .u8 0, .int .u8 0, .int .u8 0, .int .u8 0, .int .u8 0, .int .u8 0, .int .u8 0, .int .u8 0, .int .u8 0, .int .u8 0, .int .u8 0, .int .u8 0, .int .u8 0, .int .u8 0, .int .u8 0, .int .u8 0, .int .u8 0, .int .u8 0, .int .u8 0, .int .u8 0, .int .u8 0, .int .u8 0, .int .u8 0, .int .u8 0, .int .u8 0, .int .u8 0, .int .u8 0, .int .u8 0, .int .u8 0, .int .u8 0, .int .u8 0, .int .u8 0, .int .u8 0, .int .u8 0, .int .u8 0, .int .u8 0, .int .u8 0, .int .u8 0, .int .u8 0, .int .u8 0, .int .u8 0, .int .u8 0, .int .u8 0, .int .u8 0, .int .u8 0, .int .u8 0, .int .u8 0, .int .u8 0, .int .u8 0, .int .u8 0, .int .u8 0, .int .u8 0, .int .u8 0, .int .u8 0, .int .u8 0, .int .u8 0] 48 (0, 0)) := heap_alloc_new _ _
      have hx2 : ((wr.alloc (.cells #[.int .u8 0, .int .u8 0, .int .u8 0, .int .u8 0, .int .u8 0, .int .u8 0, .int .u8 0, .int .u8 0, .int .u8 0, .int .u8 0, .int .u8 0, .int .u8 0, .int .u8 0, .int .u8 0, .int .u8 0, .int .u8 0, .int .u8 0, .int .u8 0, .int .u8 0, .int .u8 0, .int .u8 0, .int .u8 0, .int .u8 0, .int .u8 0, .int .u8 0, .int .u8 0, .int .u8 0, .int .u8 0, .int .u8 0, .int .u8 0, .int .u8 0, .int .u8 0, .int .u8 0, .int .u8 0, .int .u8 0, .int .u8 0, .int .u8 0, .int .u8 0, .int .u8 0, .int .u8 0, .int .u8 0, .int .u8 0, .int .u8 0, .int .u8 0, .int .u8 0, .int .u8 0, .int .u8 0, .int .u8 0, .int .u8 0, .int .u8 0, .int .u8 0, .int .u8 0, .int .u8 0, .int .u8 0, .int .u8 0, .int .u8 0, .int .u8 0, .int .u8 0, .int .u8 0, .int .u8 0, .int .u8 0, .int .u8 0, .int .u8 0, .int .u8 0] 48)).setRow wr.heap.size (ar .u8 64 fun j => (endB 0 j : Nat))).heap[wr.heap.size]? = some (.cells (ar .u8 64 fun j => (endB 0 j : Nat)) 48 (0, 0)) := setRow_heap _ _ _ _ _ _ hx1
      have c57 := (cell_of_row _ _ 57 _ _ _ hx2).trans (ar_at _ _ _ _ (by omega))
      have f57 := frozen_of_row _ _ 57 _ _ hx2
      have hx3 : (((wr.alloc (.cells #[.int .u8 0, .int .u8 0, .int .u8 0, .int .u8 0, .int .u8 0, .int .u8 0, .int .u8 0, .int .u8 0, .int .u8 0, .int .u8 0, .int .u8 0, .int .u8 0, .int .u8 0, .int .u8 0, .int .u8 0, .int .u8 0, .int .u8 0, .int .u8 0, .int .u8 0, .int .u8 0, .int .u8 0, .int .u8 0, .int .u8 0, .int .u8 0, .int .u8 0, .int .u8 0, .int .u8 0, .int .u8 0, .int .u8 0, .int .u8 0, .int .u8 0, .int .u8 0, .int .u8 0, .int .u8 0, .int .u8 0, .int .u8 0, .int .u8 0, .int .u8 0, .int .u8 0, .int .u8 0, .int .u8 0, .int .u8 0, .int .u8 0, .int .u8 0, .int .u8 0, .int .u8 0, .int .u8 0, .int .u8 0, .int .u8 0, .int .u8 0, .int .u8 0, .int .u8 0, .int .u8 0, .int .u8 0, .int .u8 0, .int .u8 0, .int .u8 0, .int .u8 0, .int .u8 0, .int .u8 0, .int .u8 0, .int .u8 0, .int .u8 0, .int .u8 0] 48)).setRow wr.heap.size (ar .u8 64 fun j => (endB 0 j : Nat))).setCell ⟨wr.heap.size, 57, none⟩ (.int .u8 (u : Int))).heap[wr.heap.size]? = some (.cells (ar .u8 64 (updI (fun j => ((endB 0 j : Nat) : Int)) 57 (u : Int))) 48 (0, 0)) := by
        refine (heap_setCell_same _ _ _ _ _ _ hx2).trans ?_
        rw [ar_set _ _ _ _ _ (by omega)]
      have c56 := (cell_of_row _ _ 56 _ _ _ hx3).trans (ar_at _ _ _ _ (by omega))
      have f56 := frozen_of_row _ _ 56 _ _ hx3
      have hx4 : ((((wr.alloc (.cells #[.int .u8 0, .int .u8 0, .int .u8 0, .int .u8 0, .int .u8 0, .int .u8 0, .int .u8 0, .int .u8 0, .int .u8 0, .int .u8 0, .int .u8 0, .int .u8 0, .int .u8 0, .int .u8 0, .int .u8 0, .int .u8 0, .int .u8 0, .int .u8 0, .int .u8 0, .int .u8 0, .int .u8 0, .int .u8 0, .int .u8 0, .int .u8 0, .int .u8 0, .int .u8 0, .int .u8 0, .int .u8 0, .int .u8 0, .int .u8 0, .int .u8 0, .int .u8 0, .int .u8 0, .int .u8 0, .int .u8 0, .int .u8 0, .int .u8 0, .int .u8 0, .int .u8 0, .int .u8 0, .int .u8 0, .int .u8 0, .int .u8 0, .int .u8 0, .int .u8 0, .int .u8 0, .int .u8 0, .int .u8 0, .int .u8 0, .int .u8 0, .int .u8 0, .int .u8 0, .int .u8 0, .int .u8 0, .int .u8 0, .int .u8 0, .int .u8 0, .int .u8 0, .int .u8 0, .int .u8 0, .int .u8 0, .int .u8 0, .int .u8 0, .int .u8 0] 48)).setRow wr.heap.size (ar .u8 64 fun j => (endB 0 j : Nat))).setCell ⟨wr.heap.size, 57, none⟩ (.int .u8 (u : Int))).setCell ⟨wr.heap.size, 56, none⟩ (.int .u8 0)).heap[wr.heap.size]? = some (.cells (ar .u8 64 fun j => (endB k j : Nat)) 48 (0, 0)) := by
        refine (heap_setCell_same _ _ _ _ _ _ hx3).trans ?_
        rw [ar_set _ _ _ _ _ (by omega)]
        congr 2
        refine ar_congr fun j _ => ?_
        unfold updI endB
        by_cases e : j = 56
        · rw [if_pos e, e]; rfl
        · rw [if_neg e]
          by_cases e2 : j = 57
          · rw [if_pos e2, e2, ← hu]; rfl
          · simp only [if_neg e2]
      have H4 := Lib.hid (show Below w.heap.size w ((((wr.alloc (.cells #[.int .u8 0, .int .u8 0, .int .u8 0, .int .u8 0, .int .u8 0, .int .u8 0, .int .u8 0, .int .u8 0, .int .u8 0, .int .u8 0, .int .u8 0, .int .u8 0, .int .u8 0, .int .u8 0, .int .u8 0, .int .u8 0, .int .u8 0, .int .u8 0, .int .u8 0, .int .u8 0, .int .u8 0, .int .u8 0, .int .u8 0, .int .u8 0, .int .u8 0, .int .u8 0, .int .u8 0, .int .u8 0, .int .u8 0, .int .u8 0, .int .u8 0, .int .u8 0, .int .u8 0, .int .u8 0, .int .u8 0, .int .u8 0, .int .u8 0, .int .u8 0, .int .u8 0, .int .u8 0, .int .u8 0, .int .u8 0, .int .u8 0, .int .u8 0, .int .u8 0, .int .u8 0, .int .u8 0, .int .u8 0, .int .u8 0, .int .u8 0, .int .u8 0, .int .u8 0, .int .u8 0, .int .u8 0, .int .u8 0, .int .u8 0, .int .u8 0, .int .u8 0, .int .u8 0, .int .u8 0, .int .u8 0, .int .u8 0, .int .u8 0, .int .u8 0] 48)).setRow wr.heap.size (ar .u8 64 fun j => (endB 0 j : Nat))).setCell ⟨wr.heap.size, 57, none⟩ (.int .u8 (u : Int))).setCell ⟨wr.heap.size, 56, none⟩ (.int .u8 0)) ∧ ((((wr.alloc (.cells #[.int .u8 0, .int .u8 0, .int .u8 0, .int .u8 0, .int .u8 0, .int .u8 0, .int .u8 0, .int .u8 0, .int .u8 0, .int .u8 0, .int .u8 0, .int .u8 0, .int .u8 0, .int .u8 0, .int .u8 0, .int .u8 0, .int .u8 0, .int .u8 0, .int .u8 0, .int .u8 0, .int .u8 0, .int .u8 0, .int .u8 0, .int .u8 0, .int .u8 0, .int .u8 0, .int .u8 0, .int .u8 0, .int .u8 0, .int .u8 0, .int .u8 0, .int .u8 0, .int .u8 0, .int .u8 0, .int .u8 0, .int .u8 0, .int .u8 0, .int .u8 0, .int .u8 0, .int .u8 0, .int .u8 0, .int .u8 0, .int .u8 0, .int .u8 0, .int .u8 0, .int .u8 0, .int .u8 0, .int .u8 0, .int .u8 0, .int .u8 0, .int .u8 0, .int .u8 0, .int .u8 0, .int .u8 0, .int .u8 0, .int .u8 0, .int .u8 0, .int .u8 0, .int .u8 0, .int .u8 0, .int .u8 0, .int .u8 0, .int .u8 0, .int .u8 0] 48)).setRow wr.heap.size (ar .u8 64 fun j => (endB 0 j : Nat))).setCell ⟨wr.heap.size, 57, none⟩ (.int .u8 (u : Int))).setCell ⟨wr.heap.size, 56, none⟩ (.int .u8 0)).heap[w.heap.size]? = some (.cells (ar .u32 5 (hsh iniT A k)) 47 (0, 0)) ∧ Own8 (w.heap.size + 1) A y (.slice (some ⟨g, 0, none⟩) (64 * k) q) ((((wr.alloc (.cells #[.int .u8 0, .int .u8 0, .int .u8 0, .int .u8 0, .int .u8 0, .int .u8 0, .int .u8 0, .int .u8 0, .int .u8 0, .int .u8 0, .int .u8 0, .int .u8 0, .int .u8 0, .int .u8 0, .int .u8 0, .int .u8 0, .int .u8 0, .int .u8 0, .int .u8 0, .int .u8 0, .int .u8 0, .int .u8 0, .int .u8 0, .int .u8 0, .int .u8 0, .int .u8 0, .int .u8 0, .int .u8 0, .int .u8 0, .int .u8 0, .int .u8 0, .int .u8 0, .int .u8 0, .int .u8 0, .int .u8 0, .int .u8 0, .int .u8 0, .int .u8 0, .int .u8 0, .int .u8 0, .int .u8 0, .int .u8 0, .int .u8 0, .int .u8 0, .int .u8 0, .int .u8 0, .int .u8 0, .int .u8 0, .int .u8 0, .int .u8 0, .int .u8 0, .int .u8 0, .int .u8 0, .int .u8 0, .int .u8 0, .int .u8 0, .int .u8 0, .int .u8 0, .int .u8 0, .int .u8 0, .int .u8 0, .int .u8 0, .int .u8 0, .int .u8 0] 48)).setRow wr.heap.size (ar .u8 64 fun j => (endB 0 j : Nat))).setCell ⟨wr.heap.size, 57, none⟩ (.int .u8 (u : Int))).setCell ⟨wr.heap.size, 56, none⟩ (.int .u8 0)) from by
        have hk : ∀ b, b < wr.heap.size → ((((wr.alloc (.cells #[.int .u8 0, .int .u8 0, .int .u8 0, .int .u8 0, .int .u8 0, .int .u8 0, .int .u8 0, .int .u8 0, .int .u8 0, .int .u8 0, .int .u8 0, .int .u8 0, .int .u8 0, .int .u8 0, .int .u8 0, .int .u8 0, .int .u8 0, .int .u8 0, .int .u8 0, .int .u8 0, .int .u8 0, .int .u8 0, .int .u8 0, .int .u8 0, .int .u8 0, .int .u8 0, .int .u8 0, .int .u8 0, .int .u8 0, .int .u8 0, .int .u8 0, .int .u8 0, .int .u8 0, .int .u8 0, .int .u8 0, .int .u8 0, .int .u8 0, .int .u8 0, .int .u8 0, .int .u8 0, .int .u8 0, .int .u8 0, .int .u8 0, .int .u8 0, .int .u8 0, .int .u8 0, .int .u8 0, .int .u8 0, .int .u8 0, .int .u8 0, .int .u8 0, .int .u8 0, .int .u8 0, .int .u8 0, .int .u8 0, .int .u8 0, .int .u8 0, .int .u8 0, .int .u8 0, .int .u8 0, .int .u8 0, .int .u8 0, .int .u8 0, .int .u8 0] 48)).setRow wr.heap.size (ar .u8 64 fun j => (endB 0 j : Nat))).setCell ⟨wr.heap.size, 57, none⟩ (.int .u8 (u : Int))).setCell ⟨wr.heap.size, 56, none⟩ (.int .u8 0)).heap[b]? = wr.heap[b]? := fun b hb => (heap_setCell_other _ _ _ _ (by show b ≠ wr.heap.size; omega)).trans ((heap_setCell_other _ _ _ _ (by show b ≠ wr.heap.size; omega)).trans ((setRow_other _ _ _ _ (by omega)).trans (heap_alloc_old _ _ hb)))
        refine ⟨((below_setRow (H.out.old.alloc (by omega) _) (by omega) _).setCell (by show w.heap.size ≤ wr.heap.size; omega) _).setCell (by show w.heap.size ≤ wr.heap.size; omega) _, (hk _ (by omega)).trans H.out.rH, ?_⟩
        have h1 := own8_keep (fun b _ hb => hk b hb) H.out.own
        rw [hy] at h1 ⊢
        exact h1)
      have HX4 := Lib.hid hx4
      have HXX := Lib.hid hx1
      have HV0 : Hid ((.agg #[.int .u8 128, .int .u8 0, .int .u8 0, .int .u8 0, .int .u8 0, .int .u8 0, .int .u8 0, .int .u8 0, .int .u8 0, .int .u8 0, .int .u8 0, .int .u8 0, .int .u8 0, .int .u8 0, .int .u8 0, .int .u8 0, .int .u8 0, .int .u8 0, .int .u8 0, .int .u8 0, .int .u8 0, .int .u8 0, .int .u8 0, .int .u8 0, .int .u8 0, .int .u8 0, .int .u8 0, .int .u8 0, .int .u8 0, .int .u8 0, .int .u8 0, .int .u8 0, .int .u8 0, .int .u8 0, .int .u8 0, .int .u8 0, .int .u8 0, .int .u8 0, .int .u8 0, .int .u8 0, .int .u8 0, .int .u8 0, .int .u8 0, .int .u8 0, .int .u8 0, .int .u8 0, .int .u8 0, .int .u8 0, .int .u8 0, .int .u8 0, .int .u8 0, .int .u8 0, .int .u8 0, .int .u8 0, .int .u8 0, .int .u8 0, .int .u8 0, .int .u8 0, .int .u8 0, .int .u8 0, .int .u8 0, .int .u8 0, .int .u8 0, .int .u8 0] : Value) = .agg (ar .u8 64 fun j => (endB 0 j : Nat))) := Lib.hid (by kernel_rfl)
      have HBL := Lib.hid (show ∀ wx, Below w.heap.size w wx → Calls Tryd.prog 34 #[.agg (ar .u32 5 (hsh iniT A k)), .agg (ar .u8 64 fun j => (endB k j : Nat))] wx (fun e w' => e = .returned (.agg (ar .u32 5 (blk (hsh iniT A k) fun j => ((xw (endB k) j : Nat) : Int)))) ∧ Below wx.heap.size wx w') from fun wx hb => block_any (hsh iniT A k) (endB k) (fun j => by unfold endB; split; omega; split <;> omega) wx (HT.out.below hb))
      have HCE := Lib.hid (chain_end (A := A) hm6)
      have hbd := blk_bd (hsh iniT A k) (fun j => ((xw (endB k) j : Nat) : Int))
      obtain ⟨p, hp⟩ : ∃ p, (blk (hsh iniT A k) fun j => ((xw (endB k) j : Nat) : Int)) = p := ⟨_, rfl⟩
      rw [hp] at HBL HCE hbd
      rw [hy] at HCE H4
      rw [hy]
      have HBD := Lib.hid hbd
      have HI64 : Hid ((Tryd.prog.info? 48).map (·.size) = some (ar .u8 64 fun j => (endB k j : Nat)).size) := Lib.hid (by rw [ar_size]; exact info64)
      have hy6 : y < 1125899906842624 := by omega
      have HY6 := Lib.hid hy6
      clear hx1 hx2 hx3 hx4 H hy hu hp hbd hXh hlt hlt' hk hm6 hn6 hn6' hk0 hy6
      go_wp2_with (first | (refine wpList_store_row rfl 48 _ _ rfl wr.heap.size (ar .u8 64 fun j => (endB 0 j : Nat)) (by kernel_rfl) (Eq.trans (by kernel_rfl) HV0.out) 48 _ HXX.out (by rw [ar_size]; exact info64) (by rw [ar_size]; rfl) (ar_one _ _ _) ?_) | (refine wpList_load_row rfl 47 _ rfl w.heap.size rfl 47 _ (0, 0) _ H4.out.2.1 Tryd.underlying47 rfl (by rw [ar_size]; exact info5) ?_) | (refine wpList_load_row rfl 48 _ rfl wr.heap.size rfl 48 _ (0, 0) _ HX4.out Tryd.underlying48 rfl HI64.out ?_))
      refine (HBL.out _ H4.out.1).mono ?_
      rintro e w5 ⟨rfl, hb5⟩
      have H5 := Lib.hid (show Below w.heap.size w w5 ∧ w5.heap[w.heap.size]? = some (.cells (ar .u32 5 (hsh iniT A k)) 47 (0, 0)) ∧ Own8 (w.heap.size + 1) A y (.slice (some ⟨g, 0, none⟩) y q) w5 from ⟨H4.out.1.trans (hb5.mono H4.out.1.size), (hb5.block _ (Array.getElem?_eq_some_iff.1 H4.out.2.1).1).trans H4.out.2.1, own8_keep (fun b _ hb => hb5.block b hb) H4.out.2.2⟩)
      have H6 := Lib.hid (show Below w.heap.size w (w5.setRow w.heap.size (ar .u32 5 p)) ∧ (w5.setRow w.heap.size (ar .u32 5 p)).heap[w.heap.size]? = some (.cells (ar .u32 5 p) 47 (0, 0)) ∧ Own8 (w.heap.size + 1) A y (.slice (some ⟨g, 0, none⟩) y q) (w5.setRow w.heap.size (ar .u32 5 p)) from ⟨below_setRow H5.out.1 (Nat.le_refl _) _, setRow_heap _ _ _ _ _ _ H5.out.2.1, own8_keep (fun b hb _ => setRow_other _ _ _ _ (by omega)) H5.out.2.2⟩)
      clear hb5 H4 HX4 HXX HV0 HBL HI64 c57 f57 c56 f56 f1 f2 f3
      go_wp2_with (refine wpList_store_row rfl 47 _ _ rfl w.heap.size (ar .u32 5 p) rfl rfl 47 _ H5.out.2.1 (by rw [ar_size]; exact info5) (by rw [ar_size, ar_size]) (ar_one _ _ _) ?_)
      refine (sum_any HY6.out HAl.out (HT.out.below H6.out.1) (own_arg H6.out.2.2)).mono ?_
      rintro e w7 ⟨rfl, hb7⟩
      rw [HCE.out]
      obtain ⟨ro, hro⟩ : ∃ ro, jn p = ro := ⟨_, rfl⟩
      rw [hro]
      have H7 := Lib.hid (show Below w.heap.size w w7 ∧ w7.heap[w.heap.size]? = some (.cells (ar .u32 5 p) 47 (0, 0)) from ⟨H6.out.1.trans (hb7.mono H6.out.1.size), (hb7.block _ (Array.getElem?_eq_some_iff.1 H6.out.2.1).1).trans H6.out.2.1⟩)
      have hl7 := (Array.getElem?_eq_some_iff.1 H7.out.2).1
      have H8 := Lib.hid (show Below w.heap.size w ((w7.alloc (.cells #[.int .u8 0, .int .u8 0, .int .u8 0, .int .u8 0, .int .u8 0, .int .u8 0, .int .u8 0, .int .u8 0, .int .u8 0, .int .u8 0, .int .u8 0, .int .u8 0, .int .u8 0, .int .u8 0, .int .u8 0, .int .u8 0, .int .u8 0, .int .u8 0, .int .u8 0, .int .u8 0] 43)).setRow w7.heap.size (ar .u8 20 ro)) ∧ ((w7.alloc (.cells #[.int .u8 0, .int .u8 0, .int .u8 0, .int .u8 0, .int .u8 0, .int .u8 0, .int .u8 0, .int .u8 0, .int .u8 0, .int .u8 0, .int .u8 0, .int .u8 0, .int .u8 0, .int .u8 0, .int .u8 0, .int .u8 0, .int .u8 0, .int .u8 0, .int .u8 0, .int .u8 0] 43)).setRow w7.heap.size (ar .u8 20 ro)).heap[w.heap.size]? = some (.cells (ar .u32 5 p) 47 (0, 0)) ∧ ((w7.alloc (.cells #[.int .u8 0, .int .u8 0, .int .u8 0, .int .u8 0, .int .u8 0, .int .u8 0, .int .u8 0, .int .u8 0, .int .u8 0, .int .u8 0, .int .u8 0, .int .u8 0, .int .u8 0, .int .u8 0, .int .u8 0, .int .u8 0, .int .u8 0, .int .u8 0, .int .u8 0, .int .u8 0] 43)).setRow w7.heap.size (ar .u8 20 ro)).heap[w7.heap.size]? = some (.cells (ar .u8 20 ro) 43 (0, 0)) from ⟨below_setRow (H7.out.1.alloc (by omega) _) (by omega) _, (setRow_other _ _ _ _ (by omega)).trans ((heap_alloc_old _ _ hl7).trans H7.out.2), setRow_heap _ _ _ _ _ _ (heap_alloc_new _ _)⟩)
      have HRO := Lib.hid hro
      clear hb7 H5 H6 HCE hro hl7
      go_wp2_with (refine wpList_store_row rfl 43 _ _ rfl w7.heap.size (ar .u8 20 ro) rfl rfl 43 _ (heap_alloc_new _ _) (by rw [ar_size]; exact info20) (by rw [ar_size]; rfl) (ar_one _ _ _) ?_)
      obtain ⟨Y, hY⟩ : ∃ Y, w7.heap.size = Y := ⟨_, rfl⟩
      rw [hY] at H8 ⊢
      obtain ⟨w8, hw8⟩ : ∃ w8, ((w7.alloc (.cells #[.int .u8 0, .int .u8 0, .int .u8 0, .int .u8 0, .int .u8 0, .int .u8 0, .int .u8 0, .int .u8 0, .int .u8 0, .int .u8 0, .int .u8 0, .int .u8 0, .int .u8 0, .int .u8 0, .int .u8 0, .int .u8 0, .int .u8 0, .int .u8 0, .int .u8 0, .int .u8 0] 43)).setRow Y (ar .u8 20 ro)) = w8 := ⟨_, rfl⟩
      rw [hw8] at H8 ⊢
      clear hw8 hY H7
      go_loopw [10] (fun i wx => ∃ j : Nat, j ≤ 20 ∧ i = .int .i64 j ∧ Hid (Below w.heap.size w wx ∧ wx.heap[w.heap.size]? = some (.cells (ar .u32 5 p) 47 (0, 0)) ∧ wx.heap[Y]? = some (.cells (ar .u8 20 ro) 43 (0, 0)))) (fun i _ => 20 - (intOf i).toNat)
      case atStart => exact ⟨0, by omega, rfl, H8⟩
      case round =>
        obtain ⟨j, hj, rfl, H⟩ := hrel
        clear H8
        have hj0 : (0 : Int) ≤ j := by omega
        by_cases hjl : j < 20
        · have hjl' : (j : Int) < 20 := by omega
          obtain ⟨e, he⟩ : ∃ e : Nat, (j : Int) / 4 = (e : Int) := ⟨j / 4, by omega⟩
          obtain ⟨r, hr⟩ : ∃ r : Nat, (j : Int) % 4 = (r : Int) := ⟨j % 4, by omega⟩
          obtain ⟨s, hs⟩ : ∃ s : Nat, 8 * (r : Int) = (s : Int) := ⟨8 * r, by omega⟩
          have he0 : (0 : Int) ≤ e := by omega
          have he1 : (e : Int) < 5 := by omega
          have hr0 : (0 : Int) ≤ r := by omega
          have hr4 : (r : Int) < 4 := by omega
          have hs0 : (0 : Int) ≤ s := by omega
          have hs1 : (s : Int) < 32 := by omega
          have hwu : IntKind.u64.wrap (s : Int) = (s : Int) := by rw [IntKind.wrap_u64]; omega
          have ci := (cell_of_row _ _ e _ _ _ H.out.2.1).trans (ar_at _ _ _ _ (by omega))
          have co := (cell_of_row _ _ j _ _ _ H.out.2.2).trans (ar_at _ _ _ _ hjl)
          have hx1 : 0 ≤ p e := (HBD.out e).1
          have hx2 : p e < 4294967296 := (HBD.out e).2
          have hv : IntKind.u8.wrap (p e / 2 ^ s) = ro j := by rw [← HRO.out]; exact jn_at (r := r) (by omega) (by omega) (by omega)
          go_wp2_with fail
          go_region
          go_wp2
          go_roundw
          case rel => exact ⟨j + 1, by omega, by go_num, Lib.hid ⟨H.out.1.drew, H.out.2⟩⟩
          case measure => simp [intOf]; omega
        · obtain rfl : j = 20 := by omega
          have hjl' : ¬ ((20 : Nat) : Int) < 20 := by omega
          go_wp2_with fail
          refine (lives_any _ (HT.out.below H.out.1)).mono ?_
          rintro e w9 ⟨rfl, hb9⟩
          have HF9 := Lib.hid (H.out.1.trans (hb9.mono H.out.1.size))
          clear hb9
          go_wp2_with fail
          go_ret
          exact ⟨rfl, HF9.out⟩
end Go.Proofs.YtnnbpofdnhnjlaaDoor

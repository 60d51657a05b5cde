/- RIPEMD-160: what the reference's Sum comes to. -/
import Derived.Test.YtnnbpofdnhnjlaaDoorRSum
import Derived.Test.YtnnbpofdnhnjlaaDoorRRBlk2
namespace Go.Proofs.YtnnbpofdnhnjlaaDoor
open Go.RowKit

/-- The worlds while the reference takes blocks in. -/
structure CQ (w : World) (g G L : Nat) (E : Nat → Nat) (h : Nat → Int) (wx : World) : Prop where
  old : Below w.heap.size w wx
  r0 : wx.heap[w.heap.size]? = some (.cells #[.int .u8 0, .int .u8 0, .int .u8 0, .int .u8 0, .int .u8 0, .int .u8 0, .int .u8 0, .int .u8 0, .int .u8 0, .int .u8 0, .int .u8 0, .int .u8 0, .int .u8 0, .int .u8 0, .int .u8 0, .int .u8 0, .int .u8 0, .int .u8 0, .int .u8 0, .int .u8 0] 43 (0, 0))
  by8 : ∀ j, j < L → wx.cell? ⟨g, j, none⟩ = some (.int .u8 (E j : Nat))
  rG : wx.heap[G]? = some (.cells (ar .u32 5 h) 47 (0, 0))
  hg : w.heap.size < g
  hG : g < G
theorem CQ.high {w wx : World} {g G L : Nat} {E : Nat → Nat} {h : Nat → Int} (c : CQ w g G L E h wx) : G < wx.heap.size := (Array.getElem?_eq_some_iff.1 c.rG).1
theorem CQ.below {w wx w' : World} {g G L : Nat} {E : Nat → Nat} {h : Nat → Int} (c : CQ w g G L E h wx) (hb : Below wx.heap.size wx w') : CQ w g G L E h w' := by
  have l := c.high
  have l2 := c.hG
  have l3 := c.hg
  exact ⟨c.old.trans (hb.mono c.old.size), (hb.block _ (by omega)).trans c.r0, fun j hj => (hb.cell (p := ⟨g, j, none⟩) (by show g < wx.heap.size; omega)).trans (c.by8 j hj), (hb.block _ l).trans c.rG, l3, l2⟩
theorem CQ.above {w wx w' : World} {g G L : Nat} {E : Nat → Nat} {h : Nat → Int} (c : CQ w g G L E h wx) (hb : Below (G + 1) wx w') : CQ w g G L E h w' := by
  have l := c.high
  have l2 := c.hG
  have l3 := c.hg
  exact ⟨c.old.trans (hb.mono (by omega)), (hb.block _ (by omega)).trans c.r0, fun j hj => (hb.cell (p := ⟨g, j, none⟩) (by show g < G + 1; omega)).trans (c.by8 j hj), (hb.block _ (by omega)).trans c.rG, l3, l2⟩
theorem CQ.set {w wx : World} {g G L : Nat} {E : Nat → Nat} {h h' : Nat → Int} (c : CQ w g G L E h wx) : CQ w g G L E h' (wx.setRow G (ar .u32 5 h')) := by
  have l2 := c.hG
  have l3 := c.hg
  exact ⟨below_setRow c.old (by omega) _, (setRow_other _ _ _ _ (by omega)).trans c.r0, fun j hj => (World.cell?_of_block (setRow_other _ _ _ _ (show g ≠ G by omega))).trans (c.by8 j hj), setRow_heap _ _ _ _ _ _ c.rG, l3, l2⟩
/-- A block's bytes, once some of them are laid. -/
def blE (E : Nat → Nat) (y i j : Nat) : Int := if j < i then ((E (y + j) : Nat) : Int) else 0
theorem blE_next {E : Nat → Nat} {y i z : Nat} (hz : y + i = z) (j : Nat) : updI (blE E y i) i ((E z : Nat) : Int) j = blE E y (i + 1) j := by
  unfold updI blE
  by_cases e : j = i
  · subst e
    rw [if_pos rfl, if_pos (by omega), hz]
  · rw [if_neg e]
    by_cases e2 : j < i
    · rw [if_pos e2, if_pos (by omega)]
    · rw [if_neg e2, if_neg (by omega)]
theorem blE_full (E : Nat → Nat) (y : Nat) : ar .u8 64 (blE E y 64) = ar .u8 64 (fun j => ((E (y + j) : Nat) : Int)) := ar_congr fun j hj => by unfold blE; rw [if_pos hj]
theorem blE_none (E : Nat → Nat) (y : Nat) : ar .u8 64 (blE E y 0) = #[.int .u8 0, .int .u8 0, .int .u8 0, .int .u8 0, .int .u8 0, .int .u8 0, .int .u8 0, .int .u8 0, .int .u8 0, .int .u8 0, .int .u8 0, .int .u8 0, .int .u8 0, .int .u8 0, .int .u8 0, .int .u8 0, .int .u8 0, .int .u8 0, .int .u8 0, .int .u8 0, .int .u8 0, .int .u8 0, .int .u8 0, .int .u8 0, .int .u8 0, .int .u8 0, .int .u8 0, .int .u8 0, .int .u8 0, .int .u8 0, .int .u8 0, .int .u8 0, .int .u8 0, .int .u8 0, .int .u8 0, .int .u8 0, .int .u8 0, .int .u8 0, .int .u8 0, .int .u8 0, .int .u8 0, .int .u8 0, .int .u8 0, .int .u8 0, .int .u8 0, .int .u8 0, .int .u8 0, .int .u8 0, .int .u8 0, .int .u8 0, .int .u8 0, .int .u8 0, .int .u8 0, .int .u8 0, .int .u8 0, .int .u8 0, .int .u8 0, .int .u8 0, .int .u8 0, .int .u8 0, .int .u8 0, .int .u8 0, .int .u8 0, .int .u8 0] := by kernel_rfl
theorem ini_lit : ar .u32 5 iniT = #[.int .u32 1732584193, .int .u32 4023233417, .int .u32 2562383102, .int .u32 271733878, .int .u32 3285377520] := by kernel_rfl
set_option maxRecDepth 100000 in
set_option maxHeartbeats 4000000 in
-- WHAT THE REFERENCE's Sum COMES TO.
theorem rsum_any {n : Nat} {f : Nat → Nat} {v : Value} {w : World} (hn : n < 1048577) (hf : ∀ j, f j < 256) (hP : ArgB w v n f) : Calls Tryd.prog 32 #[v] w fun e w' => e = .returned (.agg (ar .u8 20 (rsum f n))) ∧ Below w.heap.size w w' := by
  have HP := Lib.hid hP
  obtain ⟨ad, cap, rfl, hc, -, -⟩ := hP
  have HF := Lib.hid hf; clear hf
  obtain ⟨i0, hi, hz0, hz1, hz2⟩ := info_partsB info8
  obtain ⟨L, hL⟩ : ∃ L, plen n = L := ⟨_, rfl⟩
  have hL0 : L % 64 = 0 ∧ n + 9 ≤ L ∧ L < n + 73 := by unfold plen at hL; omega
  obtain ⟨hL1, hL2, hL3⟩ := hL0
  have HRS := Lib.hid (show rsum f n = jn (hsh iniT (pad f n L n) (L / 64)) from by unfold rsum; rw [hL])
  clear hL
  go_enter Tryd.func32, Tryd.ntmps32
  obtain ⟨w0, hw0⟩ : ∃ w0, w.alloc (.cells #[.int .u8 0, .int .u8 0, .int .u8 0, .int .u8 0, .int .u8 0, .int .u8 0, .int .u8 0, .int .u8 0, .int .u8 0, .int .u8 0, .int .u8 0, .int .u8 0, .int .u8 0, .int .u8 0, .int .u8 0, .int .u8 0, .int .u8 0, .int .u8 0, .int .u8 0, .int .u8 0] 43) = w0 := ⟨_, rfl⟩
  have hb0 : Below w.heap.size w w0 := by rw [← hw0]; exact (Below.refl _ _).alloc (Nat.le_refl _) _
  have hr0 : w0.heap[w.heap.size]? = some (.cells #[.int .u8 0, .int .u8 0, .int .u8 0, .int .u8 0, .int .u8 0, .int .u8 0, .int .u8 0, .int .u8 0, .int .u8 0, .int .u8 0, .int .u8 0, .int .u8 0, .int .u8 0, .int .u8 0, .int .u8 0, .int .u8 0, .int .u8 0, .int .u8 0, .int .u8 0, .int .u8 0] 43 (0, 0)) := by rw [← hw0]; exact heap_alloc_new _ _
  have hs0 : w0.heap.size = w.heap.size + 1 := by rw [← hw0]; simp
  have H0 := Lib.hid (And.intro hb0 (And.intro hr0 hs0))
  clear hb0 hr0
  have hmade := World.ownsRow_made (base := w0.heap.size) (e := 5) (size := 1) w0 #[] 0 (by simp) (by decide) (by simp)
  have ha : Below w0.heap.size w0 (w0.alloc (.cells #[] 5)) := (Below.refl _ _).alloc (Nat.le_refl _) _
  obtain ⟨v', w', hr, hown, hs, hg⟩ := copy_own (k := 0) (g := fun _ => 0) (by simpa [p8] using hmade) ⟨_, _, rfl⟩ ((HP.out.below (H0.out.1.trans (Below.refl _ _))).below ha) (by omega) (by simp) 22
  rw [Nat.zero_add] at hown
  have hb := ha.grown hg (by simp) (fun j hj => by cases hj; exact Nat.le_refl _)
  have HO : Hid (Own8 w0.heap.size f n v' w' ∧ Below w0.heap.size w0 w') := Lib.hid ⟨by simpa [Own8, p8] using hown, hb⟩
  obtain ⟨gg, cc, hvv⟩ := hs
  rw [Nat.zero_add] at hvv
  subst hvv
  have HR := Lib.hid (show (Builtin.append_ #[22, 22] 22 #[.slice (some ⟨w.heap.size + 1, 0, none⟩) 0 0, .slice ad n cap]).run Tryd.prog ((w.alloc (.cells #[.int .u8 0, .int .u8 0, .int .u8 0, .int .u8 0, .int .u8 0, .int .u8 0, .int .u8 0, .int .u8 0, .int .u8 0, .int .u8 0, .int .u8 0, .int .u8 0, .int .u8 0, .int .u8 0, .int .u8 0, .int .u8 0, .int .u8 0, .int .u8 0, .int .u8 0, .int .u8 0] 43)).alloc (.cells #[] 5)) = .ok (.slice (some ⟨gg, 0, none⟩) n cc) w' from by rw [hw0, ← hs0]; exact hr)
  clear hw0 hmade ha hr hown hg hb
  have hbs : w.heap.size + 1 ≤ w'.heap.size := by have h1 := HO.out.2.size; have h2 := H0.out.2.2; omega
  go_wp2_with (first | (at_builtin; refine Go.Lib.wpList_append_run _ rfl _ _ 22 22 rfl _ _ rfl rfl _ _ HR.out ?_) | ((at_builtin; refine wpList_append_lies _ rfl _ _ 22 rfl w0.heap.size 5 i0 (.int .u8 0) 1 1 Tryd.underlying22 hi hz0 hz1 hz2 rfl (by decide) _ (n) (p8 f n) rfl (World.ownsRow.alloc HO.out.1 _) ⟨w'.heap.size, 0, none⟩ 1 1 [.int .u8 128] rfl rfl (cell_one_new _ _ _) (by intro u hu; simp at hu; subst hu; rfl) (by omega) (by unfold maxLen; omega) (by omega) (by simp; omega) (w'.heap.size + 1) (by simp) ?_; intro g2 c2 w3 hown3 hgrow hat hlt3; (have hb3 := own_below HO.out.1 HO.out.2 HO.out.2.size hgrow); (rw [p8_snoc f (pad f n L n) n 128 (fun j hj => (pad_f hj).symm) (by rw [pad_n]; rfl)] at hown3); (have HQ := Lib.hid (And.intro hown3 hb3)); clear hgrow hat hlt3 hown3 hb3 HO)))
  clear HR HP hc
  go_loopw [3] (fun v wr => ∃ c : Nat, n + 1 ≤ c ∧ c + 8 ≤ L ∧ (∃ g q, v = .slice (some ⟨g, 0, none⟩) c q) ∧ Hid (Own8 w0.heap.size (pad f n L n) c v wr ∧ Below w0.heap.size w0 wr)) (fun v _ => match v with | .slice _ c _ => L - c | _ => 0)
  case atStart => exact ⟨n + 1, by omega, by omega, ⟨_, _, rfl⟩, HQ⟩
  case round =>
    obtain ⟨c, hc1, hc2, ⟨g, q, rfl⟩, H⟩ := hrel
    have hbs : w.heap.size + 1 ≤ wr.heap.size := by have h1 := H.out.2.size; have h2 := H0.out.2.2; omega
    have hc0 : (0 : Int) ≤ c := by omega
    clear HQ
    by_cases h : c + 8 = L
    · have ht : ((c : Int) % 64 != 56) = false := by simp; omega
      obtain ⟨e8, he8⟩ : ∃ e : Nat, 8 * (n : Int) = (e : Int) := ⟨8 * n, by omega⟩
      have he0 : (0 : Int) ≤ e8 := by omega
      have hwe : IntKind.u64.wrap (e8 : Int) = (e8 : Int) := by rw [IntKind.wrap_u64]; omega
      rw [he8]
      go_wp2_with fail
      go_loopw [3, 5] (fun v i wr => ∃ k : Nat, k ≤ 8 ∧ i = .int .i64 k ∧ (∃ g q, v = .slice (some ⟨g, 0, none⟩) (c + k) q) ∧ Hid (Own8 w0.heap.size (pad f n L n) (c + k) v wr ∧ Below w0.heap.size w0 wr)) (fun _ i _ => 8 - (intOf i).toNat)
      case atStart => exact ⟨0, by omega, rfl, ⟨_, _, rfl⟩, H⟩
      case round =>
        obtain ⟨k, hk, rfl, ⟨g, q, rfl⟩, H2⟩ := hrel
        clear H
        have hbs : w.heap.size + 1 ≤ wr.heap.size := by have h1 := H2.out.2.size; have h2 := H0.out.2.2; omega
        have hk0 : (0 : Int) ≤ k := by omega
        by_cases hlt : k < 8
        · have hlt' : (k : Int) < 8 := by omega
          obtain ⟨s, hs⟩ : ∃ s : Nat, 8 * (k : Int) = (s : Int) := ⟨8 * k, by omega⟩
          have hs0' : (0 : Int) ≤ s := by omega
          have hs1 : (s : Int) < 64 := by omega
          have hws : IntKind.i64.wrap (s : Int) = (s : Int) := by rw [IntKind.wrap_i64]; omega
          have hwu : IntKind.u64.wrap (s : Int) = (s : Int) := by rw [IntKind.wrap_u64]; omega
          obtain ⟨b, hb⟩ : ∃ b, e8 / 2 ^ s % 256 = b := ⟨_, rfl⟩
          have hwb := wrap_8 hb
          have hpd : pad f n L n (c + k) = b := by
            rw [pad_m (k := k) (by omega) (by omega), ← hb, show 8 * n = e8 by omega, show 8 * k = s by omega]
          have HB := Lib.hid hpd
          clear hb hpd
          go_wp2_with (at_builtin; refine wpList_append_lies _ rfl _ _ 22 rfl w0.heap.size 5 i0 (.int .u8 0) 1 1 Tryd.underlying22 hi hz0 hz1 hz2 rfl (by decide) _ (c + k) (p8 (pad f n L n) (c + k)) rfl (World.ownsRow.alloc H2.out.1 _) ⟨wr.heap.size, 0, none⟩ 1 1 [.int .u8 (b : Int)] rfl rfl (cell_one_new _ _ _) (by intro u hu; simp at hu; subst hu; rfl) (by omega) (by unfold maxLen; omega) (by omega) (by simp; omega) (wr.heap.size + 1) (by simp) ?_; intro g2 c2 w3 hown3 hgrow hat hlt3; (have hb3 := own_below H2.out.1 H2.out.2 H2.out.2.size hgrow); (rw [p8_snoc (pad f n L n) (pad f n L n) (c + k) (b : Int) (fun j hj => rfl) (by rw [HB.out])] at hown3); (have HQ := Lib.hid (And.intro hown3 hb3)); clear hgrow hat hlt3 hown3 hb3 H2)
          go_roundw
          case rel => exact ⟨k + 1, by omega, by go_num, ⟨_, _, rfl⟩, HQ⟩
          case measure => simp [intOf]; omega
        · have hk8 : (k : Int) = 8 := by omega
          rw [hk8]
          clear hk8
          obtain rfl : k = 8 := by omega
          obtain ⟨ho, hb⟩ := H2.out
          have HG := Lib.hid (show w.heap.size < g ∧ g < wr.heap.size ∧ (∀ j, j < c + 8 → wr.cell? ⟨g, j, none⟩ = some (.int .u8 (pad f n L n j : Nat))) ∧ Below w0.heap.size w0 wr ∧ Below w.heap.size w w0 ∧ w0.heap[w.heap.size]? = some (.cells #[.int .u8 0, .int .u8 0, .int .u8 0, .int .u8 0, .int .u8 0, .int .u8 0, .int .u8 0, .int .u8 0, .int .u8 0, .int .u8 0, .int .u8 0, .int .u8 0, .int .u8 0, .int .u8 0, .int .u8 0, .int .u8 0, .int .u8 0, .int .u8 0, .int .u8 0, .int .u8 0] 43 (0, 0)) ∧ w0.heap.size = w.heap.size + 1 from by
            have h1 := ho.lt g rfl
            have h2 := H0.out.2.2
            exact ⟨by omega, h1.2, fun j hj => (ho.cellAt j (by omega)).trans (p8_at _ _ _ hj), hb, H0.out.1, H0.out.2.1, h2⟩)
          clear ho hb H2 H0
          obtain ⟨N, hN⟩ : ∃ N, L / 64 = N := ⟨_, rfl⟩
          rw [hN] at HRS
          go_wp2_with fail
          obtain ⟨G, hGe⟩ : ∃ G, wr.heap.size = G := ⟨_, rfl⟩
          have HC := Lib.hid (show CQ w g G L (pad f n L n) (hsh iniT (pad f n L n) 0) (wr.alloc (.cells #[.int .u32 1732584193, .int .u32 4023233417, .int .u32 2562383102, .int .u32 271733878, .int .u32 3285377520] 47 )) from by
            obtain ⟨h1, h2, h3, h4, h5, h6, h7⟩ := HG.out
            have hb : Below wr.heap.size wr (wr.alloc (.cells #[.int .u32 1732584193, .int .u32 4023233417, .int .u32 2562383102, .int .u32 271733878, .int .u32 3285377520] 47 )) := (Below.refl _ _).alloc (Nat.le_refl _) _
            have h8 := h4.size
            refine ⟨(h5.trans (h4.mono (by omega))).trans (hb.mono (by omega)), (hb.block _ (by omega)).trans ((h4.block _ (by omega)).trans h6), fun j hj => (hb.cell (p := ⟨g, j, none⟩) h2).trans (h3 j (by omega)), ?_, h1, by omega⟩
            rw [← hGe]
            show _ = some (Obj.cells (ar .u32 5 iniT) 47 (0, 0))
            rw [ini_lit]
            exact heap_alloc_new _ _)
          rw [hGe]
          obtain ⟨w1, hw1⟩ : ∃ w1, (wr.alloc (.cells #[.int .u32 1732584193, .int .u32 4023233417, .int .u32 2562383102, .int .u32 271733878, .int .u32 3285377520] 47 )) = w1 := ⟨_, rfl⟩
          rw [hw1] at HC ⊢
          have hE : ∀ j, pad f n L n j < 256 := fun j => pad_lt (fun j _ => HF.out j) j
          obtain ⟨E, hEe⟩ : ∃ E, pad f n L n = E := ⟨_, rfl⟩
          rw [hEe] at HC HRS hE
          have HE := Lib.hid hE
          clear hGe HG hw1 hEe hE
          obtain rfl : L = c + 8 := h.symm
          go_loopw [7] (fun i wx => ∃ k y : Nat, k ≤ N ∧ y = 64 * k ∧ i = .int .i64 y ∧ Hid (CQ w g G (c + 8) E (hsh iniT E k) wx)) (fun i _ => c + 8 - (intOf i).toNat)
          case atStart => exact ⟨0, 0, by omega, rfl, rfl, HC⟩
          case round =>
            obtain ⟨k, y, hk, hy, rfl, H⟩ := hrel
            clear HC
            have hy0 : (0 : Int) ≤ y := by omega
            by_cases hlt : k < N
            · have hlt2 : (y : Int) < (c : Int) + 8 := by omega
              have hy8 : (y : Int) + 64 ≤ (c : Int) + 8 := by omega
              have HY := Lib.hid (And.intro hk (And.intro hy hlt))
              clear hk hy hlt hN
              obtain ⟨X, hXe⟩ : ∃ X, wr.heap.size = X := ⟨_, rfl⟩
              have hHX : X < (wr.alloc (.cells #[.int .u8 0, .int .u8 0, .int .u8 0, .int .u8 0, .int .u8 0, .int .u8 0, .int .u8 0, .int .u8 0, .int .u8 0, .int .u8 0, .int .u8 0, .int .u8 0, .int .u8 0, .int .u8 0, .int .u8 0, .int .u8 0, .int .u8 0, .int .u8 0, .int .u8 0, .int .u8 0, .int .u8 0, .int .u8 0, .int .u8 0, .int .u8 0, .int .u8 0, .int .u8 0, .int .u8 0, .int .u8 0, .int .u8 0, .int .u8 0, .int .u8 0, .int .u8 0, .int .u8 0, .int .u8 0, .int .u8 0, .int .u8 0, .int .u8 0, .int .u8 0, .int .u8 0, .int .u8 0, .int .u8 0, .int .u8 0, .int .u8 0, .int .u8 0, .int .u8 0, .int .u8 0, .int .u8 0, .int .u8 0, .int .u8 0, .int .u8 0, .int .u8 0, .int .u8 0, .int .u8 0, .int .u8 0, .int .u8 0, .int .u8 0, .int .u8 0, .int .u8 0, .int .u8 0, .int .u8 0, .int .u8 0, .int .u8 0, .int .u8 0, .int .u8 0] 48 )).heap.size := by rw [← hXe]; simp
              have hx0 : (wr.alloc (.cells #[.int .u8 0, .int .u8 0, .int .u8 0, .int .u8 0, .int .u8 0, .int .u8 0, .int .u8 0, .int .u8 0, .int .u8 0, .int .u8 0, .int .u8 0, .int .u8 0, .int .u8 0, .int .u8 0, .int .u8 0, .int .u8 0, .int .u8 0, .int .u8 0, .int .u8 0, .int .u8 0, .int .u8 0, .int .u8 0, .int .u8 0, .int .u8 0, .int .u8 0, .int .u8 0, .int .u8 0, .int .u8 0, .int .u8 0, .int .u8 0, .int .u8 0, .int .u8 0, .int .u8 0, .int .u8 0, .int .u8 0, .int .u8 0, .int .u8 0, .int .u8 0, .int .u8 0, .int .u8 0, .int .u8 0, .int .u8 0, .int .u8 0, .int .u8 0, .int .u8 0, .int .u8 0, .int .u8 0, .int .u8 0, .int .u8 0, .int .u8 0, .int .u8 0, .int .u8 0, .int .u8 0, .int .u8 0, .int .u8 0, .int .u8 0, .int .u8 0, .int .u8 0, .int .u8 0, .int .u8 0, .int .u8 0, .int .u8 0, .int .u8 0, .int .u8 0] 48 )).heap[X]? = some (.cells #[.int .u8 0, .int .u8 0, .int .u8 0, .int .u8 0, .int .u8 0, .int .u8 0, .int .u8 0, .int .u8 0, .int .u8 0, .int .u8 0, .int .u8 0, .int .u8 0, .int .u8 0, .int .u8 0, .int .u8 0, .int .u8 0, .int .u8 0, .int .u8 0, .int .u8 0, .int .u8 0, .int .u8 0, .int .u8 0, .int .u8 0, .int .u8 0, .int .u8 0, .int .u8 0, .int .u8 0, .int .u8 0, .int .u8 0, .int .u8 0, .int .u8 0, .int .u8 0, .int .u8 0, .int .u8 0, .int .u8 0, .int .u8 0, .int .u8 0, .int .u8 0, .int .u8 0, .int .u8 0, .int .u8 0, .int .u8 0, .int .u8 0, .int .u8 0, .int .u8 0, .int .u8 0, .int .u8 0, .int .u8 0, .int .u8 0, .int .u8 0, .int .u8 0, .int .u8 0, .int .u8 0, .int .u8 0, .int .u8 0, .int .u8 0, .int .u8 0, .int .u8 0, .int .u8 0, .int .u8 0, .int .u8 0, .int .u8 0, .int .u8 0, .int .u8 0] 48 (0, 0)) := by rw [← hXe]; exact heap_alloc_new _ _
              have HGX := Lib.hid (show G < X ∧ w.heap.size < g ∧ g < G from ⟨by rw [← hXe]; exact H.out.high, H.out.hg, H.out.hG⟩)
              have HX0 := Lib.hid (show CQ w g G (c + 8) E (hsh iniT E k) ((wr.alloc (.cells #[.int .u8 0, .int .u8 0, .int .u8 0, .int .u8 0, .int .u8 0, .int .u8 0, .int .u8 0, .int .u8 0, .int .u8 0, .int .u8 0, .int .u8 0, .int .u8 0, .int .u8 0, .int .u8 0, .int .u8 0, .int .u8 0, .int .u8 0, .int .u8 0, .int .u8 0, .int .u8 0, .int .u8 0, .int .u8 0, .int .u8 0, .int .u8 0, .int .u8 0, .int .u8 0, .int .u8 0, .int .u8 0, .int .u8 0, .int .u8 0, .int .u8 0, .int .u8 0, .int .u8 0, .int .u8 0, .int .u8 0, .int .u8 0, .int .u8 0, .int .u8 0, .int .u8 0, .int .u8 0, .int .u8 0, .int .u8 0, .int .u8 0, .int .u8 0, .int .u8 0, .int .u8 0, .int .u8 0, .int .u8 0, .int .u8 0, .int .u8 0, .int .u8 0, .int .u8 0, .int .u8 0, .int .u8 0, .int .u8 0, .int .u8 0, .int .u8 0, .int .u8 0, .int .u8 0, .int .u8 0, .int .u8 0, .int .u8 0, .int .u8 0, .int .u8 0] 48 )).setRow X (ar .u8 64 (blE E y 0))) ∧ ((wr.alloc (.cells #[.int .u8 0, .int .u8 0, .int .u8 0, .int .u8 0, .int .u8 0, .int .u8 0, .int .u8 0, .int .u8 0, .int .u8 0, .int .u8 0, .int .u8 0, .int .u8 0, .int .u8 0, .int .u8 0, .int .u8 0, .int .u8 0, .int .u8 0, .int .u8 0, .int .u8 0, .int .u8 0, .int .u8 0, .int .u8 0, .int .u8 0, .int .u8 0, .int .u8 0, .int .u8 0, .int .u8 0, .int .u8 0, .int .u8 0, .int .u8 0, .int .u8 0, .int .u8 0, .int .u8 0, .int .u8 0, .int .u8 0, .int .u8 0, .int .u8 0, .int .u8 0, .int .u8 0, .int .u8 0, .int .u8 0, .int .u8 0, .int .u8 0, .int .u8 0, .int .u8 0, .int .u8 0, .int .u8 0, .int .u8 0, .int .u8 0, .int .u8 0, .int .u8 0, .int .u8 0, .int .u8 0, .int .u8 0, .int .u8 0, .int .u8 0, .int .u8 0, .int .u8 0, .int .u8 0, .int .u8 0, .int .u8 0, .int .u8 0, .int .u8 0, .int .u8 0] 48 )).setRow X (ar .u8 64 (blE E y 0))).heap[X]? = some (.cells (ar .u8 64 (blE E y 0)) 48 (0, 0)) from ⟨(H.out.below ((Below.refl _ _).alloc (Nat.le_refl _) _)).above (below_setRow (Below.refl _ _) (by have := HGX.out.1; omega) _), setRow_heap _ _ _ _ _ _ hx0⟩)
              have HXX := Lib.hid (And.intro hXe hx0)
              have hv0 : (.agg #[.int .u8 0, .int .u8 0, .int .u8 0, .int .u8 0, .int .u8 0, .int .u8 0, .int .u8 0, .int .u8 0, .int .u8 0, .int .u8 0, .int .u8 0, .int .u8 0, .int .u8 0, .int .u8 0, .int .u8 0, .int .u8 0, .int .u8 0, .int .u8 0, .int .u8 0, .int .u8 0, .int .u8 0, .int .u8 0, .int .u8 0, .int .u8 0, .int .u8 0, .int .u8 0, .int .u8 0, .int .u8 0, .int .u8 0, .int .u8 0, .int .u8 0, .int .u8 0, .int .u8 0, .int .u8 0, .int .u8 0, .int .u8 0, .int .u8 0, .int .u8 0, .int .u8 0, .int .u8 0, .int .u8 0, .int .u8 0, .int .u8 0, .int .u8 0, .int .u8 0, .int .u8 0, .int .u8 0, .int .u8 0, .int .u8 0, .int .u8 0, .int .u8 0, .int .u8 0, .int .u8 0, .int .u8 0, .int .u8 0, .int .u8 0, .int .u8 0, .int .u8 0, .int .u8 0, .int .u8 0, .int .u8 0, .int .u8 0, .int .u8 0, .int .u8 0] : Value) = .agg (ar .u8 64 (blE E y 0)) := by rw [blE_none]
              have HV0 := Lib.hid hv0
              clear hx0 hHX hv0 H hXe
              go_wp2_with (refine wpList_store_row rfl 48 _ _ rfl X (ar .u8 64 (blE E y 0)) (by rw [← HXX.out.1]; kernel_rfl) (Eq.trans (by kernel_rfl) HV0.out) 48 _ HXX.out.2 (by rw [ar_size]; exact info64) (by rw [ar_size]; rfl) (ar_one _ _ _) ?_)
              rw [HXX.out.1]
              obtain ⟨w2, hw2⟩ : ∃ w2, ((wr.alloc (.cells #[.int .u8 0, .int .u8 0, .int .u8 0, .int .u8 0, .int .u8 0, .int .u8 0, .int .u8 0, .int .u8 0, .int .u8 0, .int .u8 0, .int .u8 0, .int .u8 0, .int .u8 0, .int .u8 0, .int .u8 0, .int .u8 0, .int .u8 0, .int .u8 0, .int .u8 0, .int .u8 0, .int .u8 0, .int .u8 0, .int .u8 0, .int .u8 0, .int .u8 0, .int .u8 0, .int .u8 0, .int .u8 0, .int .u8 0, .int .u8 0, .int .u8 0, .int .u8 0, .int .u8 0, .int .u8 0, .int .u8 0, .int .u8 0, .int .u8 0, .int .u8 0, .int .u8 0, .int .u8 0, .int .u8 0, .int .u8 0, .int .u8 0, .int .u8 0, .int .u8 0, .int .u8 0, .int .u8 0, .int .u8 0, .int .u8 0, .int .u8 0, .int .u8 0, .int .u8 0, .int .u8 0, .int .u8 0, .int .u8 0, .int .u8 0, .int .u8 0, .int .u8 0, .int .u8 0, .int .u8 0, .int .u8 0, .int .u8 0, .int .u8 0, .int .u8 0] 48 )).setRow X (ar .u8 64 (blE E y 0))) = w2 := ⟨_, rfl⟩
              rw [hw2] at HX0 ⊢
              clear hw2 HXX HV0
              go_loopw [9] (fun i wx => ∃ j : Nat, j ≤ 64 ∧ i = .int .i64 j ∧ Hid (CQ w g G (c + 8) E (hsh iniT E k) wx ∧ wx.heap[X]? = some (.cells (ar .u8 64 (blE E y j)) 48 (0, 0)))) (fun i _ => 64 - (intOf i).toNat)
              case atStart => exact ⟨0, by omega, rfl, HX0⟩
              case round =>
                obtain ⟨j, hj, rfl, H⟩ := hrel
                clear HX0
                have hj0 : (0 : Int) ≤ j := by omega
                by_cases hjl : j < 64
                · have hjl' : (j : Int) < 64 := by omega
                  obtain ⟨z, hz⟩ : ∃ z : Nat, (y : Int) + (j : Int) = (z : Int) := ⟨y + j, by omega⟩
                  have hz0 : (0 : Int) ≤ z := by omega
                  have hz1 : (z : Int) < (c : Int) + 8 := by omega
                  have hz2 : (z : Int) < ((c + 8 : Nat) : Int) := by omega
                  have hwz : IntKind.i64.wrap (z : Int) = (z : Int) := by rw [IntKind.wrap_i64]; omega
                  have ci : wr.cell? ⟨g, z, none⟩ = some (.int .u8 (E z : Nat)) := H.out.1.by8 z (by omega)
                  have co : wr.cell? ⟨X, j, none⟩ = some (.int .u8 (blE E y j j)) := (cell_of_row wr _ j _ _ _ H.out.2).trans (ar_at _ _ _ _ hjl)
                  have fo : wr.frozen? ⟨X, j, none⟩ = false := frozen_of_row wr _ j _ _ H.out.2
                  have HZ := Lib.hid (show y + j = z from by omega)
                  go_wp2_with fail
                  go_roundw
                  case rel =>
                    refine ⟨j + 1, by omega, by go_num, Lib.hid ⟨H.out.1.above ((Below.refl _ _).setCell (by have := HGX.out.1; show G + 1 ≤ X; omega) _), ?_⟩⟩
                    refine (heap_setCell_same _ _ _ _ _ _ H.out.2).trans ?_
                    rw [ar_set _ _ _ _ _ hjl]
                    congr 2
                    exact ar_congr (fun i _ => blE_next HZ.out i)
                  case measure => simp [intOf]; omega
                · obtain rfl : j = 64 := by omega
                  have hjl' : ¬ ((64 : Nat) : Int) < 64 := by omega
                  have h2 := H.out.2
                  rw [blE_full] at h2
                  obtain ⟨x, hx⟩ : ∃ x : Nat → Int, (fun j => ((E (y + j) : Nat) : Int)) = x := ⟨_, rfl⟩
                  have HBL := Lib.hid (show ∀ wx, Calls Tryd.prog 35 #[.agg (ar .u32 5 (hsh iniT E k)), .agg (ar .u8 64 x)] wx (fun e w' => e = .returned (.agg (ar .u32 5 (hsh iniT E (k + 1)))) ∧ Below wx.heap.size wx w') from fun wx => by
                    rw [← hx, HY.out.2.1]
                    exact rblock_any (hsh iniT E k) (fun i => E (64 * k + i)) (fun i => HE.out _) wx)
                  rw [hx] at h2
                  have H2 := Lib.hid (And.intro H.out.1 h2)
                  have HI64 : Hid ((Tryd.prog.info? 48 ).map (·.size) = some (ar .u8 64 x).size) := Lib.hid (by rw [ar_size]; exact info64)
                  clear h2 hx H
                  obtain ⟨p, hp⟩ : ∃ p, hsh iniT E k = p := ⟨_, rfl⟩
                  obtain ⟨p', hp'⟩ : ∃ p, hsh iniT E (k + 1) = p := ⟨_, rfl⟩
                  rw [hp] at H2 HBL
                  rw [hp'] at HBL
                  have HP' := Lib.hid hp'
                  clear hp hp'
                  go_wp2_with (first | (refine wpList_load_row rfl 47 _ rfl G rfl 47 _ (0, 0) _ H2.out.1.rG Tryd.underlying47 rfl (by rw [ar_size]; exact info5) ?_) | (refine wpList_load_row rfl 48 _ rfl X rfl 48 _ (0, 0) _ H2.out.2 Tryd.underlying48 rfl HI64.out ?_))
                  refine (HBL.out _).mono ?_
                  rintro e w5 ⟨rfl, hb5⟩
                  have H5 := Lib.hid (H2.out.1.below hb5)
                  clear hb5 H2
                  go_wp2_with (refine wpList_store_row rfl 47 _ _ rfl G (ar .u32 5 p') rfl rfl 47 _ H5.out.rG (by rw [ar_size]; exact info5) (by rw [ar_size, ar_size]) (ar_one _ _ _) ?_)
                  go_roundw
                  case rel =>
                    refine ⟨k + 1, y + 64, by have := HY.out; omega, by have := HY.out; omega, by go_num, Lib.hid ?_⟩
                    rw [HP'.out]
                    exact H5.out.set
                  case measure => simp [intOf]; omega
            · obtain rfl : k = N := by omega
              have hlt2 : ¬ (y : Int) < (c : Int) + 8 := by omega
              have hbd := fun j => hsh_bd iniT E k (by omega) j
              obtain ⟨p, hp⟩ : ∃ p, hsh iniT E k = p := ⟨_, rfl⟩
              rw [hp] at H HRS hbd
              have HBD := Lib.hid hbd
              clear hy hk hN hp hbd
              obtain ⟨X, hXe⟩ : ∃ X, wr.heap.size = X := ⟨_, rfl⟩
              have hx0 : (wr.alloc (.cells #[.int .u8 0, .int .u8 0, .int .u8 0, .int .u8 0, .int .u8 0, .int .u8 0, .int .u8 0, .int .u8 0, .int .u8 0, .int .u8 0, .int .u8 0, .int .u8 0, .int .u8 0, .int .u8 0, .int .u8 0, .int .u8 0, .int .u8 0, .int .u8 0, .int .u8 0, .int .u8 0] 43 )).heap[X]? = some (.cells #[.int .u8 0, .int .u8 0, .int .u8 0, .int .u8 0, .int .u8 0, .int .u8 0, .int .u8 0, .int .u8 0, .int .u8 0, .int .u8 0, .int .u8 0, .int .u8 0, .int .u8 0, .int .u8 0, .int .u8 0, .int .u8 0, .int .u8 0, .int .u8 0, .int .u8 0, .int .u8 0] 43 (0, 0)) := by rw [← hXe]; exact heap_alloc_new _ _
              have HGX := Lib.hid (show G < X ∧ w.heap.size < g ∧ g < G from ⟨by rw [← hXe]; exact H.out.high, H.out.hg, H.out.hG⟩)
              have HX0 := Lib.hid (show CQ w g G (c + 8) E p ((wr.alloc (.cells #[.int .u8 0, .int .u8 0, .int .u8 0, .int .u8 0, .int .u8 0, .int .u8 0, .int .u8 0, .int .u8 0, .int .u8 0, .int .u8 0, .int .u8 0, .int .u8 0, .int .u8 0, .int .u8 0, .int .u8 0, .int .u8 0, .int .u8 0, .int .u8 0, .int .u8 0, .int .u8 0] 43 )).setRow X (ar .u8 20 (jnd p 0))) ∧ ((wr.alloc (.cells #[.int .u8 0, .int .u8 0, .int .u8 0, .int .u8 0, .int .u8 0, .int .u8 0, .int .u8 0, .int .u8 0, .int .u8 0, .int .u8 0, .int .u8 0, .int .u8 0, .int .u8 0, .int .u8 0, .int .u8 0, .int .u8 0, .int .u8 0, .int .u8 0, .int .u8 0, .int .u8 0] 43 )).setRow X (ar .u8 20 (jnd p 0))).heap[X]? = some (.cells (ar .u8 20 (jnd p 0)) 43 (0, 0)) from ⟨(H.out.below ((Below.refl _ _).alloc (Nat.le_refl _) _)).above (below_setRow (Below.refl _ _) (by have := HGX.out.1; omega) _), setRow_heap _ _ _ _ _ _ hx0⟩)
              have HXX := Lib.hid (And.intro hXe hx0)
              have HV0 : Hid ((.agg #[.int .u8 0, .int .u8 0, .int .u8 0, .int .u8 0, .int .u8 0, .int .u8 0, .int .u8 0, .int .u8 0, .int .u8 0, .int .u8 0, .int .u8 0, .int .u8 0, .int .u8 0, .int .u8 0, .int .u8 0, .int .u8 0, .int .u8 0, .int .u8 0, .int .u8 0, .int .u8 0] : Value) = .agg (ar .u8 20 (jnd p 0))) := Lib.hid (by rw [jnd_none])
              clear hx0 H hXe HE
              go_wp2_with (refine wpList_store_row rfl 43 _ _ rfl X (ar .u8 20 (jnd p 0)) (by rw [← HXX.out.1]; kernel_rfl) (Eq.trans (by kernel_rfl) HV0.out) 43 _ HXX.out.2 (by rw [ar_size]; exact info20) (by rw [ar_size]; rfl) (ar_one _ _ _) ?_)
              rw [HXX.out.1]
              obtain ⟨w2, hw2⟩ : ∃ w2, ((wr.alloc (.cells #[.int .u8 0, .int .u8 0, .int .u8 0, .int .u8 0, .int .u8 0, .int .u8 0, .int .u8 0, .int .u8 0, .int .u8 0, .int .u8 0, .int .u8 0, .int .u8 0, .int .u8 0, .int .u8 0, .int .u8 0, .int .u8 0, .int .u8 0, .int .u8 0, .int .u8 0, .int .u8 0] 43 )).setRow X (ar .u8 20 (jnd p 0))) = w2 := ⟨_, rfl⟩
              rw [hw2] at HX0 ⊢
              clear hw2 HXX HV0
              go_loopw [11] (fun i wx => ∃ j : Nat, j ≤ 20 ∧ i = .int .i64 j ∧ Hid (CQ w g G (c + 8) E p wx ∧ wx.heap[X]? = some (.cells (ar .u8 20 (jnd p j)) 43 (0, 0)))) (fun i _ => 20 - (intOf i).toNat)
              case atStart => exact ⟨0, by omega, rfl, HX0⟩
              case round =>
                obtain ⟨j, hj, rfl, H⟩ := hrel
                clear HX0
                have hj0 : (0 : Int) ≤ j := by omega
                by_cases hjl : j < 20
                · have hjl' : (j : Int) < 20 := by omega
                  obtain ⟨q, hq⟩ : ∃ q : Nat, (j : Int) / 4 = (q : Int) := ⟨j / 4, by omega⟩
                  obtain ⟨r, hr⟩ : ∃ r : Nat, (j : Int) % 4 = (r : Int) := ⟨j % 4, by omega⟩
                  obtain ⟨s, hs⟩ : ∃ s : Nat, 8 * (r : Int) = (s : Int) := ⟨8 * r, by omega⟩
                  have hq0 : (0 : Int) ≤ q := by omega
                  have hq1 : (q : Int) < 5 := by omega
                  have hr0 : (0 : Int) ≤ r := by omega
                  have hr4 : (r : Int) < 4 := by omega
                  have hs0' : (0 : Int) ≤ s := by omega
                  have hs1 : (s : Int) < 32 := by omega
                  have hwu : IntKind.u64.wrap (s : Int) = (s : Int) := by rw [IntKind.wrap_u64]; omega
                  have ci : wr.cell? ⟨G, q, none⟩ = some (.int .u32 (p q)) := (cell_of_row wr _ q _ _ _ H.out.1.rG).trans (ar_at _ _ _ _ (by omega))
                  have co : wr.cell? ⟨X, j, none⟩ = some (.int .u8 (jnd p j j)) := (cell_of_row wr _ j _ _ _ H.out.2).trans (ar_at _ _ _ _ hjl)
                  have fo : wr.frozen? ⟨X, j, none⟩ = false := frozen_of_row wr _ j _ _ H.out.2
                  have hx1 : 0 ≤ p q := (HBD.out q).1
                  have hx2 : p q < 4294967296 := (HBD.out q).2
                  have hv : IntKind.u8.wrap (p q / 2 ^ s) = jn p j := jn_at (r := r) (by omega) (by omega) (by omega)
                  go_wp2_with fail
                  go_roundw
                  case rel =>
                    refine ⟨j + 1, by omega, by go_num, Lib.hid ⟨H.out.1.above ((Below.refl _ _).setCell (by have := HGX.out.1; show G + 1 ≤ X; omega) _), ?_⟩⟩
                    refine (heap_setCell_same _ _ _ _ _ _ H.out.2).trans ?_
                    rw [ar_set _ _ _ _ _ hjl]
                    congr 2
                    exact ar_congr (fun i _ => jnd_next i)
                  case measure => simp [intOf]; omega
                · obtain rfl : j = 20 := by omega
                  have hjl' : ¬ ((20 : Nat) : Int) < 20 := by omega
                  have h2 := H.out.2
                  rw [jnd_full] at h2
                  obtain ⟨ro, hro⟩ : ∃ ro, jn p = ro := ⟨_, rfl⟩
                  rw [hro] at h2 HRS
                  have H2 := Lib.hid (And.intro h2 (And.intro H.out.1.r0 H.out.1.old))
                  have HI : Hid ((Tryd.prog.info? 43 ).map (·.size) = some (ar .u8 20 ro).size) := Lib.hid (by rw [ar_size]; exact info20)
                  clear h2 hro H HGX
                  go_wp2_with (first | (refine wpList_load_row rfl 43 _ rfl X rfl 43 _ (0, 0) _ H2.out.1 Tryd.underlying43 rfl HI.out ?_) | (refine wpList_store_row rfl 43 _ _ rfl w.heap.size (ar .u8 20 ro) rfl rfl 43 _ H2.out.2.1 HI.out (by rw [ar_size]; rfl) (ar_one _ _ _) ?_))
                  refine bodyPost_ret (v := .agg (ar .u8 20 ro)) (results_cell_row (p := 2) rfl _ _ w.heap.size 43 _ (0, 0) _ rfl (setRow_heap _ _ _ _ _ _ H2.out.2.1) Tryd.underlying43 rfl HI.out) rfl ⟨?_, below_setRow H2.out.2.2 (Nat.le_refl _) _⟩
                  rw [HRS.out]
    · have ht : ((c : Int) % 64 != 56) = true := by simp; omega
      go_wp2_with (at_builtin; refine wpList_append_lies _ rfl _ _ 22 rfl w0.heap.size 5 i0 (.int .u8 0) 1 1 Tryd.underlying22 hi hz0 hz1 hz2 rfl (by decide) _ (c) (p8 (pad f n L n) c) rfl (World.ownsRow.alloc H.out.1 _) ⟨wr.heap.size, 0, none⟩ 1 1 [.int .u8 0] rfl rfl (cell_one_new _ _ _) (by intro u hu; simp at hu; subst hu; rfl) (by omega) (by unfold maxLen; omega) (by omega) (by simp; omega) (wr.heap.size + 1) (by simp) ?_; intro g2 c2 w3 hown3 hgrow hat hlt3; (have hb3 := own_below H.out.1 H.out.2 H.out.2.size hgrow); (rw [p8_snoc (pad f n L n) (pad f n L n) c 0 (fun j hj => rfl) (by rw [pad_0 (by omega) (by omega)]; rfl)] at hown3); (have HQ := Lib.hid (And.intro hown3 hb3)); clear hgrow hat hlt3 hown3 hb3 H)
      go_roundw
      case rel => exact ⟨c + 1, by omega, by omega, ⟨_, _, rfl⟩, HQ⟩
      case measure => simp; omega
end Go.Proofs.YtnnbpofdnhnjlaaDoor

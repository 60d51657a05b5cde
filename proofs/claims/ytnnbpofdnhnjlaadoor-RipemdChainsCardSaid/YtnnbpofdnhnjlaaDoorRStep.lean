/- RIPEMD-160: what ripemd.stepped comes to. -/
import Derived.Test.YtnnbpofdnhnjlaaDoorRTab
import Derived.Deep.QuietTactic
namespace Go.Proofs.YtnnbpofdnhnjlaaDoor
open Go.RowKit

/-- Five numbers. -/
structure St where
  a : Int
  b : Int
  c : Int
  d : Int
  e : Int
/-- A line's step at the place p of the row q. -/
def stp (x : Nat → Int) (l q p : Nat) (S : St) : St :=
  ⟨S.e, (rup (turT q p) ((S.a + rmx (mixT l q) S.b S.c S.d + x p + conT l q) % 4294967296) + S.e) % 4294967296, S.b, rup 10 S.c, S.d⟩
/-- What h is behind n steps of a line. -/
def rst (h x : Nat → Int) (l : Nat) : Nat → St
  | 0 => ⟨h 0, h 1, h 2, h 3, h 4⟩
  | n + 1 => stp x l (n / 16) (plc l (n / 16) (n % 16)) (rst h x l n)
theorem rst_step (h x : Nat → Int) (l q k : Nat) (hk : k < 16) : rst h x l (16 * q + (k + 1)) = stp x l q (plc l q k) (rst h x l (16 * q + k)) := by
  show rst h x l (16 * q + k + 1) = _
  rw [rst, show (16 * q + k) / 16 = q by omega, show (16 * q + k) % 16 = k by omega]
/-- The places while the row q is gone through. -/
def pr (l q k j : Nat) : Nat := if j < k then plc l (q + 1) j else plc l q j
def st5 (S : St) (j : Nat) : Int := [S.a, S.b, S.c, S.d, S.e].getD j 0
theorem mixT_le (l q : Nat) (hq : q < 5) : mixT l q ≤ 4 := by unfold mixT; split <;> omega
theorem below_drewN {h : Nat} {w w' : World} (hb : Below h w w') (m : Nat) : Below h w (w'.drewN m) :=
  ⟨hb.os, hb.tape, hb.output, hb.size, hb.block⟩
theorem five_cells {w : World} {g : Nat} {t : TypeId} {h : Nat → Int} (hg : w.heap[g]? = some (.cells (ar .u32 5 h) t (0, 0))) (j : Nat) (hj : j < 5) : w.cell? ⟨g, j, none⟩ = some (.int .u32 (h j)) :=
  (cell_of_row w _ j _ _ _ hg).trans (ar_at _ _ _ _ hj)
set_option maxRecDepth 100000 in
set_option maxHeartbeats 4000000 in
theorem stepped_any (h x : Nat → Int) (l : Nat) (hl : l < 2) (w : World) (hT : Tabs w) : Calls Tryd.prog 59 #[.agg (ar .u32 5 h), .agg (ar .u32 16 x), .int .i64 l] w fun e w' => e = .returned (.agg (ar .u32 5 (st5 (rst h x l 80)))) ∧ Below w.heap.size w w' := by
  have hl0 : (0 : Int) ≤ l := by omega
  have hl1 : (l : Int) < 2 := by omega
  go_enter Tryd.func59, Tryd.ntmps59
  obtain ⟨w1, hw1⟩ : ∃ w1, ((w.alloc (.cells (ar .u32 5 h) 47)).alloc (.cells (ar .u32 16 x) 92)).alloc (.cells #[.int .u32 0, .int .u32 0, .int .u32 0, .int .u32 0, .int .u32 0] 47) = w1 := ⟨_, rfl⟩
  have hh := heap3 w (.cells (ar .u32 5 h) 47) (.cells (ar .u32 16 x) 92) (.cells #[.int .u32 0, .int .u32 0, .int .u32 0, .int .u32 0, .int .u32 0] 47)
  have hb1 : Below w.heap.size w w1 := by rw [← hw1]; go_grown
  have hsz : w1.heap.size = w.heap.size + 3 := by rw [← hw1]; simp
  rw [hw1] at hh
  have HH := Lib.hid hh
  have T1 := Lib.hid (hT.below hb1)
  have T0 := Lib.hid hT
  have HB := Lib.hid hb1
  have HSZ := Lib.hid hsz
  clear hh hb1 hsz hT
  have c0 := five_cells HH.out.1 0 (by omega)
  have c1 := five_cells HH.out.1 1 (by omega)
  have c2 := five_cells HH.out.1 2 (by omega)
  have c3 := five_cells HH.out.1 3 (by omega)
  have c4 := five_cells HH.out.1 4 (by omega)
  go_wp2_with fail
  clear hw1
  go_quiet (fail)
  obtain ⟨w2, hw2⟩ : ∃ w2, w1.drewN nq = w2 := ⟨_, rfl⟩
  have hb2 : Below w1.heap.size w1 w2 := by rw [← hw2]; exact below_drewN (Below.refl _ _) _
  replace T1 := Lib.hid (T1.out.below hb2)
  have h0 : w2.heap[w.heap.size]? = _ := (hb2.block _ (by have := HSZ.out; omega)).trans HH.out.1
  have h1 : w2.heap[w.heap.size + 1]? = _ := (hb2.block _ (by have := HSZ.out; omega)).trans HH.out.2.1
  have h2 : w2.heap[w.heap.size + 1 + 1]? = _ := (hb2.block _ (by have := HSZ.out; omega)).trans HH.out.2.2
  have HR := Lib.hid (And.intro h0 (And.intro h1 (And.intro h2 ((HB.out.trans (hb2.mono HB.out.size)) : Below w.heap.size w w2))))
  have HS2 : Hid (w2.heap.size = w.heap.size + 3) := Lib.hid (by rw [← hw2]; exact HSZ.out)
  rw [hw2]
  clear hw2 hb2 h0 h1 h2 HH HB HSZ c0 c1 c2 c3 c4
  have hi16 : (Tryd.prog.info? 103).map (·.size) = some 16 := by kernel_rfl
  have HI16 := Lib.hid hi16
  clear hi16
  have HF := Lib.hid (fun j hj => T1.out.fir l j hl hj)
  go_wp2_with (first
    | (refine wpList_load_part rfl 103 _ rfl 3 (l * 16) 16 .i64 (fun j => (firT l j : Nat)) rfl _ HF.out Tryd.underlying103 rfl HI16.out ?_)
    | (refine wpList_store_row rfl 103 _ _ rfl w2.heap.size (ar .i64 16 fun j => (firT l j : Nat)) rfl rfl 103 _ (heap_alloc_new _ _) (by rw [ar_size]; exact HI16.out) (by rw [ar_size]; rfl) (ar_one _ _ _) ?_))
  have hs2 : w2.heap.size = w.heap.size + 3 := HS2.out
  have hal : (w2.alloc (.cells #[.int .i64 0, .int .i64 0, .int .i64 0, .int .i64 0, .int .i64 0, .int .i64 0, .int .i64 0, .int .i64 0, .int .i64 0, .int .i64 0, .int .i64 0, .int .i64 0, .int .i64 0, .int .i64 0, .int .i64 0, .int .i64 0] 103)).heap[w2.heap.size]? = _ := heap_alloc_new _ _
  go_loopw [7, 8, 9, 10, 11, 32] (fun a b c d e i wr => ∃ q : Nat, q ≤ 5 ∧ i = .int .i64 q ∧ a = .int .u32 (rst h x l (16 * q)).a ∧ b = .int .u32 (rst h x l (16 * q)).b ∧ c = .int .u32 (rst h x l (16 * q)).c ∧ d = .int .u32 (rst h x l (16 * q)).d ∧ e = .int .u32 (rst h x l (16 * q)).e ∧ Hid (wr.heap[w2.heap.size]? = some (.cells (ar .i64 16 fun j => (plc l q j : Nat)) 103 (0, 0)) ∧ wr.heap[w.heap.size + 1]? = some (.cells (ar .u32 16 x) 92 (0, 0)) ∧ wr.heap[w.heap.size + 1 + 1]? = some (.cells #[.int .u32 0, .int .u32 0, .int .u32 0, .int .u32 0, .int .u32 0] 47 (0, 0)) ∧ Below w.heap.size w wr)) (fun _ _ _ _ _ i _ => 5 - (intOf i).toNat)
  case atStart =>
    refine ⟨0, by omega, rfl, rfl, rfl, rfl, rfl, rfl, Lib.hid ⟨setRow_heap _ _ _ _ _ _ hal, ?_, ?_, ?_⟩⟩
    · rw [setRow_other _ _ _ _ (by omega)]
      exact (heap_alloc_old _ _ (by omega)).trans HR.out.2.1
    · rw [setRow_other _ _ _ _ (by omega)]
      exact (heap_alloc_old _ _ (by omega)).trans HR.out.2.2.1
    · exact below_setRow (HR.out.2.2.2.alloc (by omega) _) (by omega) _
  case round =>
    clear hs2 hal
    obtain ⟨q, hq, rfl, rfl, rfl, rfl, rfl, rfl, H⟩ := hrel
    have hq0 : (0 : Int) ≤ q := by omega
    have hq1 : (q : Int) ≤ 5 := by omega
    by_cases hlt : q < 5
    · have hlt' : (q : Int) < 5 := by omega
      obtain ⟨S, hS⟩ : ∃ S, rst h x l (16 * q) = S := ⟨_, rfl⟩
      rw [hS]
      have HS := Lib.hid hS
      clear hS
      have TW := T0.out.below H.out.2.2.2
      have cm := TW.mix l q hl hlt
      have cc := TW.con l q hl hlt
      clear TW
      go_wp2_with fail
      go_quiet (fail)
      obtain ⟨w3, hw3⟩ : ∃ w3, wr.drewN nq = w3 := ⟨_, rfl⟩
      have H3 : Hid (w3.heap[w2.heap.size]? = some (.cells (ar .i64 16 fun j => (plc l q j : Nat)) 103 (0, 0)) ∧ w3.heap[w.heap.size + 1]? = some (.cells (ar .u32 16 x) 92 (0, 0)) ∧ w3.heap[w.heap.size + 1 + 1]? = some (.cells #[.int .u32 0, .int .u32 0, .int .u32 0, .int .u32 0, .int .u32 0] 47 (0, 0)) ∧ Below w.heap.size w w3) := Lib.hid (by rw [← hw3]; exact ⟨H.out.1, H.out.2.1, H.out.2.2.1, below_drewN H.out.2.2.2 _⟩)
      rw [hw3]
      clear hw3 H cm cc
      have HI : Hid ((Tryd.prog.info? 103).map (·.size) = some (ar .i64 16 fun j => ((plc l q j : Nat) : Int)).size) := Lib.hid (by rw [ar_size]; exact HI16.out)
      go_wp2_with (refine wpList_load_row rfl 103 _ rfl w2.heap.size rfl 103 _ (0, 0) _ H3.out.1 Tryd.underlying103 rfl HI.out ?_)
      go_loopw [7, 8, 9, 10, 11, 46] (fun a b c d e i wi => ∃ k : Nat, k ≤ 16 ∧ i = .int .i64 k ∧ a = .int .u32 (rst h x l (16 * q + k)).a ∧ b = .int .u32 (rst h x l (16 * q + k)).b ∧ c = .int .u32 (rst h x l (16 * q + k)).c ∧ d = .int .u32 (rst h x l (16 * q + k)).d ∧ e = .int .u32 (rst h x l (16 * q + k)).e ∧ Hid (wi.heap[w2.heap.size]? = some (.cells (ar .i64 16 fun j => (pr l q k j : Nat)) 103 (0, 0)) ∧ wi.heap[w.heap.size + 1]? = some (.cells (ar .u32 16 x) 92 (0, 0)) ∧ wi.heap[w.heap.size + 1 + 1]? = some (.cells #[.int .u32 0, .int .u32 0, .int .u32 0, .int .u32 0, .int .u32 0] 47 (0, 0)) ∧ Below w.heap.size w wi)) (fun _ _ _ _ _ i _ => 16 - (intOf i).toNat)
      case atStart =>
        have h0 : rst h x l (16 * q + 0) = S := HS.out
        refine ⟨0, by omega, rfl, ?_, ?_, ?_, ?_, ?_, H3⟩ <;> rw [h0]
      case round =>
        obtain ⟨k, hk, rfl, rfl, rfl, rfl, rfl, rfl, HK⟩ := hrel
        have hk0 : (0 : Int) ≤ k := by omega
        have hk1 : (k : Int) ≤ 16 := by omega
        by_cases hkl : k < 16
        · have hkl' : (k : Int) < 16 := by omega
          have HN := Lib.hid (rst_step h x l q k hkl)
          obtain ⟨V, hV⟩ : ∃ V, rst h x l (16 * q + k) = V := ⟨_, rfl⟩
          rw [hV] at HN ⊢
          clear hV
          have hix : ∀ w, (Instr.index 103 (.agg (ar .i64 16 fun j => (plc l q j : Nat))) (.int .i64 k)).run Tryd.prog w = .ok (.int .i64 (plc l q k : Nat)) w := fun w => index_ar (f := fun j => ((plc l q j : Nat) : Int)) w Tryd.underlying103 (by kernel_rfl) (by kernel_rfl) hkl
          have hpl := plc_lt l hl q k hkl
          have HP : Hid (pr l q (k + 1) = fun j => if j = k then nexT (plc l q k) else pr l q k j) := Lib.hid (by
            funext j
            unfold pr
            by_cases e : j = k
            · subst e; rw [if_pos (by omega), if_pos rfl]; rfl
            · rw [if_neg e]
              by_cases e2 : j < k
              · rw [if_pos (by omega), if_pos e2]
              · rw [if_neg (by omega), if_neg e2])
          obtain ⟨p, hp⟩ : ∃ p, plc l q k = p := ⟨_, rfl⟩
          rw [hp] at hix hpl HP HN
          clear hp
          have hp0 : (0 : Int) ≤ p := by omega
          have hp1 : (p : Int) < 16 := by omega
          have cx : wr.cell? ⟨w.heap.size + 1, p, none⟩ = some (.int .u32 (x p)) := (cell_of_row wr _ p _ _ _ HK.out.2.1).trans (ar_at _ _ _ _ hpl)
          have FM := Lib.hid (fun w => mixed_q (mixT l q) (mixT_le l q hlt) V.b V.c V.d w)
          go_wp2_with fail
          go_quiet ((go_at_call 85; with_reducible exact Calls.quiet_of_same (FM.out _)))
          obtain ⟨w4, hw4⟩ : ∃ w4, wr.drewN nq = w4 := ⟨_, rfl⟩
          have H4 : Hid (w4.heap[w2.heap.size]? = some (.cells (ar .i64 16 fun j => (pr l q k j : Nat)) 103 (0, 0)) ∧ w4.heap[w.heap.size + 1]? = some (.cells (ar .u32 16 x) 92 (0, 0)) ∧ w4.heap[w.heap.size + 1 + 1]? = some (.cells #[.int .u32 0, .int .u32 0, .int .u32 0, .int .u32 0, .int .u32 0] 47 (0, 0)) ∧ Below w.heap.size w w4) := Lib.hid (by rw [← hw4]; exact ⟨HK.out.1, HK.out.2.1, HK.out.2.2.1, below_drewN HK.out.2.2.2 _⟩)
          rw [hw4]
          clear hw4 HK cx
          have TW := T0.out.below H4.out.2.2.2
          have ct := TW.tur q p hlt hpl
          have cn := TW.nex p hpl
          have hb := turT_bd q p hlt hpl
          clear TW
          have HT := Lib.hid (fun y w => rot_any y (turT q p) (by omega) hb.1 w)
          have hb0 : (0 : Int) ≤ turT q p := by omega
          have hb1 : (turT q p : Int) < 16 := by omega
          clear hb
          have co : w4.cell? ⟨w2.heap.size, k, none⟩ = some (.int .i64 (pr l q k k : Nat)) := (cell_of_row w4 _ k _ _ _ H4.out.1).trans (ar_at _ _ _ _ hkl)
          have fo : w4.frozen? ⟨w2.heap.size, k, none⟩ = false := frozen_of_row w4 _ k _ _ H4.out.1
          go_wp2_with fail
          refine (HT.out _ _).mono ?_
          rintro e w' ⟨rfl, rfl⟩
          go_wp2_with fail
          refine (rot_ten _ _).mono ?_
          rintro e w' ⟨rfl, rfl⟩
          go_wp2_with fail
          go_roundw
          case rel =>
            have hs2 := HS2.out
            refine ⟨k + 1, by omega, by go_num, ?_, ?_, ?_, ?_, ?_, Lib.hid ⟨?_, (heap_setCell_other _ _ _ _ (by simp; omega)).trans H4.out.2.1, (heap_setCell_other _ _ _ _ (by simp; omega)).trans H4.out.2.2.1, H4.out.2.2.2.setCell (by simp; omega) _⟩⟩
            · rw [HN.out]; rfl
            · rw [HN.out]; rfl
            · rw [HN.out]; rfl
            · rw [HN.out]; rfl
            · rw [HN.out]; rfl
            · refine (heap_setCell_same _ _ _ _ _ _ H4.out.1).trans ?_
              rw [ar_set _ _ _ _ _ hkl]
              congr 2
              refine ar_congr (fun j _ => ?_)
              rw [HP.out]
              unfold updI
              by_cases e : j = k
              · rw [if_pos e]; simp only [if_pos e]
              · rw [if_neg e]; simp only [if_neg e]
          case measure => simp [intOf]; omega
        · obtain rfl : k = 16 := by omega
          have hfull : ar .i64 16 (fun j => ((pr l q 16 j : Nat) : Int)) = ar .i64 16 (fun j => ((plc l (q + 1) j : Nat) : Int)) := ar_congr (fun j hj => by unfold pr; rw [if_pos hj])
          have hk := HK.out
          rw [hfull] at hk
          have H5 := Lib.hid hk
          clear hk hfull HK
          rw [show 16 * q + 16 = 16 * (q + 1) by omega]
          go_wp2_with fail
          go_roundw
          case rel => exact ⟨q + 1, by omega, by go_num, rfl, rfl, rfl, rfl, rfl, H5⟩
          case measure => simp [intOf]; omega
    · obtain rfl : q = 5 := by omega
      have HI5 : Hid ((Tryd.prog.info? 47).map (·.size) = some 5) := Lib.hid (by kernel_rfl)
      obtain ⟨S, hS⟩ : ∃ S, rst h x l 80 = S := ⟨_, rfl⟩
      have hS' : rst h x l (16 * 5) = S := hS
      rw [hS']
      have HS := Lib.hid hS
      clear hS hS'
      have hrow : (.agg #[.int .u32 S.a, .int .u32 S.b, .int .u32 S.c, .int .u32 S.d, .int .u32 S.e] : Value) = .agg (ar .u32 5 (st5 S)) := by kernel_rfl
      have HR5 := Lib.hid hrow
      have HZ : Hid ((#[.int .u32 0, .int .u32 0, .int .u32 0, .int .u32 0, .int .u32 0] : Array Value).size = (ar .u32 5 (st5 S)).size) := Lib.hid (by rw [ar_size]; rfl)
      have HI6 : Hid ((Tryd.prog.info? 47).map (·.size) = some (ar .u32 5 (st5 S)).size) := Lib.hid (by rw [ar_size]; exact HI5.out)
      clear hrow
      go_wp2_with (refine wpList_store_row rfl 47 _ _ rfl (w.heap.size + 1 + 1) (ar .u32 5 (st5 S)) rfl HR5.out 47 _ H.out.2.2.1 HI6.out HZ.out (ar_one _ _ _) ?_)
      refine bodyPost_ret (v := .agg (ar .u32 5 (st5 S))) (results_cell_row (p := 6) rfl _ _ (w.heap.size + 1 + 1) 47 _ (0, 0) _ rfl (setRow_heap _ _ _ _ _ _ H.out.2.2.1) Tryd.underlying47 rfl HI6.out) rfl ⟨?_, below_setRow H.out.2.2.2 (by omega) _⟩
      rw [HS.out]
end Go.Proofs.YtnnbpofdnhnjlaaDoor

/- The permutation's second step: what moveLanes comes to; then all rounds: what permute comes to. -/
import Derived.Test.YtcmpnnfnkcmpcaaDoorKRows
namespace Go.Proofs.YtcmpnnfnkcmpcaaDoor
open Go.RowKit

def pthT (t : Nat) : Nat := [10, 7, 11, 17, 18, 3, 5, 16, 8, 21, 24, 4, 15, 23, 19, 13, 12, 2, 20, 14, 22, 9, 6, 1].getD t 0
def posT (j : Nat) : Nat := [99, 23, 17, 5, 11, 6, 22, 1, 8, 21, 0, 2, 16, 15, 19, 12, 7, 3, 4, 14, 18, 9, 20, 13, 10].getD j 99
def rcT (t : Nat) : Int := [1, 32898, 9223372036854808714, 9223372039002292224, 32907, 2147483649, 9223372039002292353, 9223372036854808585, 138, 136, 2147516425, 2147483658, 2147516555, 9223372036854775947, 9223372036854808713, 9223372036854808579, 9223372036854808578, 9223372036854775936, 32778, 9223372039002259466, 9223372039002292353, 9223372036854808704, 2147483649, 9223372039002292232].getD t 0
/-- The place of the lane that is carried ahead of the step t. -/
def lanT (t : Nat) : Nat := if t = 0 then 1 else pthT (t - 1)
theorem pth_all : ∀ t, t < 24 → pthT t < 25 ∧ posT (pthT t) = t ∧ ksrc (pthT t) = lanT t ∧ ktrn (pthT t) = (t + 1) * (t + 2) / 2 ∧ lanT t < 25 := by decide +kernel
theorem pos_all : ∀ j, j < 25 → posT j < 24 → pthT (posT j) = j := by decide +kernel
theorem pos_mv : ∀ j, j < 25 → (posT j < 24 ↔ j ≠ 0) := by decide +kernel
theorem pos_of {j t : Nat} (ht : t < 24) (h : posT j = t) : j = pthT t := by
  by_cases hj : j < 25
  · rw [← h]; exact (pos_all j hj (by omega)).symm
  · exfalso
    unfold posT at h
    rw [List.getD_eq_getElem?_getD, List.getElem?_eq_none (by simpa using hj)] at h
    simp at h
    omega
/-- The state behind t moves. -/
def mvD (v : Nat → Int) (t j : Nat) : Int := if posT j < t then rul (ktrn j) (v (ksrc j)) else v j
theorem mvD_next (v : Nat → Int) (t : Nat) (ht : t < 24) : updI (mvD v t) (pthT t) (rul ((t + 1) * (t + 2) / 2) (v (lanT t))) = mvD v (t + 1) := by
  obtain ⟨h1, h2, h3, h4, h5⟩ := pth_all t ht
  funext j
  unfold updI mvD
  by_cases h : j = pthT t
  · subst h; rw [if_pos rfl, h2, if_pos (by omega), h3, h4]
  · rw [if_neg h]
    have hp : posT j ≠ t := fun e => h (pos_of ht e)
    by_cases hq : posT j < t
    · rw [if_pos hq, if_pos (by omega)]
    · rw [if_neg hq, if_neg (by omega)]
theorem mvD_at (v : Nat → Int) (t : Nat) (ht : t < 24) : mvD v t (pthT t) = v (lanT (t + 1)) := by
  obtain ⟨h1, h2, -⟩ := pth_all t ht
  unfold mvD lanT
  rw [h2, if_neg (by omega), if_neg (by omega)]
  rfl
theorem mvD_all (v : Nat → Int) (tl : Array Value) : kr (mvD v 24) tl = kr (kmv v) tl := by
  unfold kr
  rw [ar_congr (fun j hj => show mvD v 24 j = kmv v j by
    unfold mvD kmv
    have h := pos_mv j hj
    by_cases e : j = 0
    · subst e; rw [if_pos rfl, if_neg (by rw [h]; simp)]
    · rw [if_neg e, if_pos (h.2 e)])]
/-- The tables lie as the program lays them. -/
structure KTab (w : World) : Prop where
  pth : ∀ t, t < 24 → w.cell? ⟨2, t, none⟩ = some (.int .i64 (pthT t : Nat))
  rcs : ∀ t, t < 24 → w.cell? ⟨0, t, none⟩ = some (.int .u64 (rcT t))
theorem block_lt_of_cell {w : World} {g o : Nat} {v : Value} (h : w.cell? ⟨g, o, none⟩ = some v) : g < w.heap.size := by
  simpa using World.block_lt_of_cell? w _ h
/-- The block that turns is none of the tables'. -/
def Apt (V : Nat) : Prop := 2 ≠ V ∧ 0 ≠ V
theorem KTab.bt {w w' : World} {V : Nat} (h : KTab w) (hV : Apt V) (hb : Bt V w w') : KTab w' :=
  ⟨fun t ht => (hb.cell (p := ⟨2, t, none⟩) hV.1 (block_lt_of_cell (h.pth t ht))).trans (h.pth t ht), fun t ht => (hb.cell (p := ⟨0, t, none⟩) hV.2 (block_lt_of_cell (h.rcs t ht))).trans (h.rcs t ht)⟩
theorem KTab.below {w w' : World} (h : KTab w) (hb : Below w.heap.size w w') : KTab w' :=
  ⟨fun t ht => (hb.cell (p := ⟨2, t, none⟩) (block_lt_of_cell (h.pth t ht))).trans (h.pth t ht), fun t ht => (hb.cell (p := ⟨0, t, none⟩) (block_lt_of_cell (h.rcs t ht))).trans (h.rcs t ht)⟩
theorem kloadi (g j : Nat) (y : Int) (w : World) (h : w.cell? ⟨g, j, none⟩ = some (.int .i64 y)) : (Instr.loadAt 3 (.pointer (some ⟨g, j, none⟩))).run Tryd.prog w = .ok (.int .i64 y) w := by
  go_simp
theorem ixP (t : Nat) (h : t < 24) (w : World) : (Instr.indexAt 83 (.pointer (some ⟨2, 0, none⟩)) (.int .i64 (t : Nat))).run Tryd.prog w = .ok (.pointer (some ⟨2, t, none⟩)) w := by
  have h0 : (0 : Int) ≤ t := by omega
  have h1 : (t : Int) < 24 := by omega
  go_simp
theorem ixC (t : Nat) (h : t < 24) (w : World) : (Instr.indexAt 71 (.pointer (some ⟨0, 0, none⟩)) (.int .i64 (t : Nat))).run Tryd.prog w = .ok (.pointer (some ⟨0, t, none⟩)) w := by
  have h0 : (0 : Int) ≤ t := by omega
  have h1 : (t : Int) < 24 := by omega
  go_simp
theorem ixV (V p : Nat) (h : p < 25) (w : World) : (Instr.indexAt 44 (.pointer (some ⟨V, 0, none⟩)) (.int .i64 (p : Nat))).run Tryd.prog w = .ok (.pointer (some ⟨V, p, none⟩)) w := by
  have h0 : (0 : Int) ≤ p := by omega
  have h1 : (p : Int) < 25 := by omega
  go_simp
theorem q_v {P : Program} {ops : Array Oper} {C : World → Prop} {Q : Act → Prop} {a : Act} {o : Oper} {rest : List Oper} (s : Sem Value) (v : Value) (hw : Region.wanted o (yielded ops a.tmps) = true) (ho : execOp a.eval o = (do let x ← s; pure (.value x))) (hr : ∀ w, C w → s.run P w = .ok v w) (h : wpQuiet P ops C Q rest (a.put o.dst v)) : wpQuiet P ops C Q (o :: rest) a :=
  q_val v hw (fun w hC => by rw [ho]; simp only [Sem.run_bind, hr w hC, Result.andThen_ok, Sem.run_pure]) h
set_option maxRecDepth 100000 in
set_option maxHeartbeats 4000000 in
-- THE SECOND STEP.
theorem kmoves {V : Nat} {tt : TypeId} {tl : Array Value} {v : Nat → Int} (w : World) (hT : KTab w) (hA : Apt V) (hw : w.heap[V]? = some (.cells (kr v tl) tt (0, 0))) :
    Calls Tryd.prog 40 #[.pointer (some ⟨V, 0, none⟩)] w fun e w' => e = .returned (.tuple #[]) ∧ CP w V tt tl (kmv v) w' := by
  have HT := Lib.hid (And.intro hT hA)
  have H0 := Lib.hid (show CP w V tt tl (mvD v 0) w from ⟨Bt.refl _ _, by rw [show mvD v 0 = v from funext fun j => by unfold mvD; rw [if_neg (by omega)]]; exact hw⟩)
  have c1 : w.cell? ⟨V, 1, none⟩ = some (.int .u64 (v 1)) := (cell_of_row w _ 1 _ _ _ hw).trans (kr_at _ _ _ (by decide))
  clear hw hT hA
  go_enter Tryd.func40, Tryd.ntmps40
  go_wp2_with fail
  go_loopw [2, 3, 10] (fun l b i wr => ∃ t : Nat, t ≤ 24 ∧ l = .int .u64 (v (lanT t)) ∧ b = .int .i64 ((t * (t + 1) / 2 : Nat) : Int) ∧ i = .int .i64 t ∧ Hid (CP w V tt tl (mvD v t) wr)) (fun _ _ i _ => 24 - (intOf i).toNat)
  case atStart => exact ⟨0, by omega, rfl, rfl, rfl, H0⟩
  case round =>
    obtain ⟨t, ht, rfl, rfl, rfl, H⟩ := hrel
    clear H0 c1
    have ht0 : (0 : Int) ≤ t := by omega
    by_cases hlt : t < 24
    · have hlt' : (t : Int) < 24 := by omega
      have hX := Lib.hid (pth_all t hlt)
      obtain ⟨l, hl⟩ : ∃ l, v (lanT t) = l := ⟨_, rfl⟩
      have hbb : t * (t + 1) / 2 ≤ 300 := by
        have h1 : t * (t + 1) ≤ 24 * 25 := Nat.mul_le_mul (by omega) (by omega)
        omega
      have hbn : t * (t + 1) / 2 + (t + 1) = (t + 1) * (t + 2) / 2 := by
        have h1 : (t + 1) * (t + 2) = t * (t + 1) + 2 * (t + 1) := by rw [Nat.mul_comm (t + 1) (t + 2), ← Nat.add_mul]
        omega
      obtain ⟨b, hb⟩ : ∃ b : Nat, t * (t + 1) / 2 = b := ⟨_, rfl⟩
      obtain ⟨b', hb'⟩ : ∃ b : Nat, (t + 1) * (t + 2) / 2 = b := ⟨_, rfl⟩
      rw [hb, hb'] at hbn
      rw [hb] at hbb
      obtain ⟨p, hp⟩ : ∃ p, pthT t = p := ⟨_, rfl⟩
      have hp25 : p < 25 := by rw [← hp]; exact hX.out.1
      have HP := Lib.hid (show mvD v t p = v (lanT (t + 1)) from by rw [← hp]; exact mvD_at v t hlt)
      have HN := Lib.hid (show updI (mvD v t) p (rul b' l) = mvD v (t + 1) from by rw [← hp, ← hb', ← hl]; exact mvD_next v t hlt)
      have HC := Lib.hid (show ∀ wx, CP w V tt tl (mvD v t) wx → wx.cell? ⟨2, t, none⟩ = some (.int .i64 (p : Nat)) from fun wx c => by rw [← hp]; exact (HT.out.1.bt HT.out.2 c.bt).pth t hlt)
      rw [hl, hb]
      have HB := Lib.hid (show (t + 1) * (t + 1 + 1) / 2 = b' from hb')
      have HL := Lib.hid hlt
      clear hl hb hb' hX hp
      have e1 : (b : Int) + ((t : Int) + 1) = (b' : Int) := by omega
      have e2 : IntKind.i64.wrap (b' : Int) = (b' : Int) := by rw [IntKind.wrap_i64]; omega
      have hb4 : b' < 4294967296 := by omega
      obtain ⟨z, hz⟩ : ∃ z, v (lanT (t + 1)) = z := ⟨_, rfl⟩
      rw [hz] at HP
      have HZ := Lib.hid hz
      clear hz
      go_wp2_with fail
      refine wp_region_quiet (C := CP w V tt tl (mvD v t)) (by kernel_rfl) (by kernel_rfl) H.out.drew ?_
      with_reducible refine q_val (.pointer (some ⟨V, 0, none⟩)) (by kernel_rfl) (fun _ _ => by kernel_rfl) ?_
      with_reducible refine q_val (.int .i64 t) (by kernel_rfl) (fun _ _ => by kernel_rfl) ?_
      with_reducible refine q_v (Instr.indexAt 83 (.pointer (some ⟨2, 0, none⟩)) (.int .i64 (t : Nat))) (.pointer (some ⟨2, t, none⟩)) (by kernel_rfl) (by kernel_rfl) (fun w _ => ixP t HL.out w) ?_
      with_reducible refine q_load 3 (.tmp 19) (.pointer (some ⟨2, t, none⟩)) (.int .i64 (p : Nat)) rfl (by kernel_rfl) (by kernel_rfl) (fun _ h => kloadi _ _ _ _ (HC.out _ h)) ?_
      with_reducible refine q_val (.pointer (some ⟨V, 0, none⟩)) (by kernel_rfl) (fun _ _ => by kernel_rfl) ?_
      with_reducible refine q_v (Instr.indexAt 44 (.pointer (some ⟨V, 0, none⟩)) (.int .i64 (p : Nat))) (.pointer (some ⟨V, p, none⟩)) (by kernel_rfl) (by kernel_rfl) (fun w _ => ixV V p hp25 w) ?_
      with_reducible refine q_val (.pointer (some ⟨V, p, none⟩)) (by kernel_rfl) (fun _ _ => by kernel_rfl) ?_
      with_reducible refine wpQuiet_nil ?_
      intro w1 hC1
      clear H
      have H := Lib.hid hC1
      clear hC1
      simp only [Act.put, List.setIfInBounds_toArray, List.set_cons_succ, List.set_cons_zero]
      go_wp2_with fail
      refine region_quiet_tail 9 (CP w V tt tl (mvD v t)) (by kernel_rfl) (by kernel_rfl) H.out.drew ?_
      simp only [List.take_succ_cons, List.take_zero, List.drop_succ_cons, List.drop_zero]
      with_reducible refine q_val (.pointer (some ⟨V, p, none⟩)) (by kernel_rfl) (fun _ _ => by kernel_rfl) ?_
      with_reducible refine q_val (.pointer (some ⟨V, p, none⟩)) (by kernel_rfl) (fun _ _ => by kernel_rfl) ?_
      with_reducible refine q_val (.pointer (some ⟨V, p, none⟩)) (by kernel_rfl) (fun _ _ => by kernel_rfl) ?_
      with_reducible refine q_load 34 (.tmp 25) (.pointer (some ⟨V, p, none⟩)) (.int .u64 z) rfl (by kernel_rfl) (by kernel_rfl) (fun _ h => h.at' p hp25 _ HP.out) ?_
      with_reducible refine q_val (.int .u64 l) (by kernel_rfl) (fun _ _ => by kernel_rfl) ?_
      with_reducible refine q_val (.int .i64 b') (by kernel_rfl) (fun _ _ => by kernel_rfl) ?_
      with_reducible refine q_call 50 #[.int .u64 l, .int .i64 b'] (.int .u64 (rul b' l)) (by kernel_rfl) (fun _ => by kernel_rfl) (fun wx h => (rotl b' hb4 l wx).mono fun e w' hh => ⟨hh.1, by rw [hh.2]; exact h⟩) ?_
      with_reducible refine q_val (.int .u64 z) (by kernel_rfl) (fun _ _ => by kernel_rfl) ?_
      with_reducible refine q_val (.pointer (some ⟨V, p, none⟩)) (by kernel_rfl) (fun _ _ => by kernel_rfl) ?_
      with_reducible refine wpQuiet_nil ?_
      intro w2 hCx
      simp only [Act.put, List.setIfInBounds_toArray, List.set_cons_succ, List.set_cons_zero]
      have co := hCx.cell p hp25
      have fo := frozen_of_row _ _ p _ _ hCx.row
      have H2 := Lib.hid (hCx.set p hp25 (rul b' l))
      rw [HN.out] at H2
      clear hCx H
      go_wp2_with fail
      go_roundw
      case rel => exact ⟨t + 1, by omega, by rw [HZ.out], by rw [HB.out], by go_num, H2⟩
      case measure => simp [intOf]; omega
    · obtain rfl : t = 24 := by omega
      have hr := H.out.row
      rw [mvD_all] at hr
      have HR := Lib.hid (And.intro H.out.bt hr)
      clear hr
      go_wp2_with fail
      go_end0
      exact ⟨rfl, HR.out.1, HR.out.2⟩
set_option maxRecDepth 100000 in
set_option maxHeartbeats 4000000 in
-- ALL ROUNDS.
theorem kperm {V : Nat} {tt : TypeId} {tl : Array Value} {v : Nat → Int} (w : World) (hT : KTab w) (hA : Apt V) (hw : w.heap[V]? = some (.cells (kr v tl) tt (0, 0))) :
    Calls Tryd.prog 27 #[.pointer (some ⟨V, 0, none⟩)] w fun e w' => e = .returned (.tuple #[]) ∧ CP w V tt tl (kpm rcT 24 v) w' := by
  have HT := Lib.hid (And.intro hT hA)
  have H0 := Lib.hid (show CP w V tt tl (kpm rcT 0 v) w from ⟨Bt.refl _ _, hw⟩)
  clear hw hT hA
  go_enter Tryd.func27, Tryd.ntmps27
  go_wp2_with fail
  go_loopw [3] (fun i wr => ∃ t : Nat, t ≤ 24 ∧ i = .int .i64 t ∧ Hid (CP w V tt tl (kpm rcT t v) wr)) (fun i _ => 24 - (intOf i).toNat)
  case atStart => exact ⟨0, by omega, rfl, H0⟩
  case round =>
    obtain ⟨t, ht, rfl, H⟩ := hrel
    clear H0
    have ht0 : (0 : Int) ≤ t := by omega
    by_cases hlt : t < 24
    · have hlt' : (t : Int) < 24 := by omega
      have HL := Lib.hid hlt
      obtain ⟨x, hx⟩ : ∃ x, kpm rcT t v = x := ⟨_, rfl⟩
      rw [hx] at H
      have HX := Lib.hid hx
      clear hx
      go_wp2_with fail
      refine (kmix _ H.out.row).mono ?_
      rintro e u ⟨rfl, h⟩
      have H1 := Lib.hid (show CP w V tt tl (kth x) u from ⟨H.out.bt.trans (Bt.of_kbut h.but), h.row⟩)
      clear H h
      go_wp2_with fail
      refine (kmoves _ (HT.out.1.bt HT.out.2 H1.out.bt) HT.out.2 H1.out.row).mono ?_
      rintro e u2 ⟨rfl, h⟩
      have H2 := Lib.hid (show CP w V tt tl (kmv (kth x)) u2 from ⟨H1.out.bt.trans h.bt, h.row⟩)
      clear H1 h
      go_wp2_with fail
      refine (krows _ H2.out.row).mono ?_
      rintro e u3 ⟨rfl, h⟩
      have H3 := Lib.hid (show CP w V tt tl (kch (kmv (kth x))) u3 from ⟨H2.out.bt.trans h.bt, h.row⟩)
      clear H2 h
      obtain ⟨c, hc⟩ : ∃ c, rcT t = c := ⟨_, rfl⟩
      have HN := Lib.hid (show updI (kch (kmv (kth x))) 0 (bits .xor .u64 (kch (kmv (kth x)) 0) c) = kpm rcT (t + 1) v from by rw [← hc, ← HX.out]; rfl)
      obtain ⟨y, hy⟩ : ∃ y, kch (kmv (kth x)) = y := ⟨_, rfl⟩
      rw [hy] at HN H3
      clear hy
      have HC := Lib.hid (show ∀ wx, CP w V tt tl y wx → wx.cell? ⟨0, t, none⟩ = some (.int .u64 c) from fun wx h => by rw [← hc]; exact (HT.out.1.bt HT.out.2 h.bt).rcs t hlt)
      clear hc
      go_wp2_with fail
      refine region_quiet_tail 10 (CP w V tt tl y) (by kernel_rfl) (by kernel_rfl) H3.out.drew ?_
      simp only [List.take_succ_cons, List.take_zero, List.drop_succ_cons, List.drop_zero]
      with_reducible refine q_val (.pointer (some ⟨V, 0, none⟩)) (by kernel_rfl) (fun _ _ => by kernel_rfl) ?_
      with_reducible refine q_val (.pointer (some ⟨V, 0, none⟩)) (by kernel_rfl) (fun _ _ => by kernel_rfl) ?_
      with_reducible refine q_val (.pointer (some ⟨V, 0, none⟩)) (by kernel_rfl) (fun _ _ => by kernel_rfl) ?_
      with_reducible refine q_load 34 (.tmp 14) (.pointer (some ⟨V, 0, none⟩)) (.int .u64 (y 0)) rfl (by kernel_rfl) (by kernel_rfl) (fun _ h => h.at' 0 (by decide) _ rfl) ?_
      with_reducible refine q_val (.int .i64 t) (by kernel_rfl) (fun _ _ => by kernel_rfl) ?_
      with_reducible refine q_v (Instr.indexAt 71 (.pointer (some ⟨0, 0, none⟩)) (.int .i64 (t : Nat))) (.pointer (some ⟨0, t, none⟩)) (by kernel_rfl) (by kernel_rfl) (fun w _ => ixC t HL.out w) ?_
      with_reducible refine q_load 34 (.tmp 17) (.pointer (some ⟨0, t, none⟩)) (.int .u64 c) rfl (by kernel_rfl) (by kernel_rfl) (fun _ h => kload _ _ _ _ (HC.out _ h)) ?_
      with_reducible refine q_val (.int .u64 (bits .xor .u64 (y 0) c)) (by kernel_rfl) (fun _ _ => by kernel_rfl) ?_
      with_reducible refine q_val (.pointer (some ⟨V, 0, none⟩)) (by kernel_rfl) (fun _ _ => by kernel_rfl) ?_
      with_reducible refine q_val (.pointer (some ⟨V, 0, none⟩)) (by kernel_rfl) (fun _ _ => by kernel_rfl) ?_
      with_reducible refine wpQuiet_nil ?_
      intro w2 hCx
      simp only [Act.put, List.setIfInBounds_toArray, List.set_cons_succ, List.set_cons_zero]
      have co := hCx.cell 0 (by decide)
      have fo := frozen_of_row _ _ 0 _ _ hCx.row
      have H4 := Lib.hid (hCx.set 0 (by decide) (bits .xor .u64 (y 0) c))
      rw [HN.out] at H4
      clear hCx H3
      go_wp2_with fail
      go_roundw
      case rel => exact ⟨t + 1, by omega, by go_num, H4⟩
      case measure => simp [intOf]; omega
    · obtain rfl : t = 24 := by omega
      go_wp2_with fail
      go_end0
      exact ⟨rfl, H.out⟩
end Go.Proofs.YtcmpnnfnkcmpcaaDoor

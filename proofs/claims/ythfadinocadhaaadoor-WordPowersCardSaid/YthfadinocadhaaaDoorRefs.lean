/- What bailiwickref01.Add, Mul, Not, Neg, Sub come to, called with any words. -/
import Derived.Test.YthfadinocadhaaaDoorInv
import Derived.Test.YthfadinocadhaaaDoorSum
import Derived.Test.YthfadinocadhaaaDoorWord
import Derived.Test.YthfadinocadhaaaDoorProd
import Derived.Test.YthfadinocadhaaaDoorNot
namespace Go.Proofs.YthfadinocadhaaaDoor
open Go.RowKit

/-- A word's parts. -/
def pw (x : Nat) : Array Value := #[.int .u64 ((x % 18446744073709551616 : Nat) : Int), .int .u64 ((x / 18446744073709551616 % 18446744073709551616 : Nat) : Int), .int .u64 ((x / 340282366920938463463374607431768211456 % 18446744073709551616 : Nat) : Int), .int .u64 ((x / 6277101735386680763835789423207666416102355444464034512896 % 18446744073709551616 : Nat) : Int)]
theorem wv_pw (x : Nat) : wv x = .agg (pw x) := rfl
theorem pw_size (x : Nat) : (pw x).size = 4 := rfl
theorem pw_one (x : Nat) : (pw x).all (·.oneCell') = true := by simp [pw, Value.oneCell']
theorem infoWord : (Tryd.prog.info? 24).map (·.size) = some 4 := by kernel_rfl

/-- A slice of n digits with the number V, wherever it lies. -/
def DgV (n V : Nat) (v : Value) (w : World) : Prop := ∃ (b cap : Nat) (d : Nat → Nat), v = .slice (some ⟨b, 0, none⟩) n cap ∧ Dg w b n d ∧ (∀ j, j < n → d j < 65536) ∧ vd d n = V
/-- All blocks but one are as they were. -/
def Rb (S : Nat) (w w' : World) : Prop := w.heap.size ≤ w'.heap.size ∧ ∀ k, k < w.heap.size → k ≠ S → w'.heap[k]? = w.heap[k]?
theorem Rb.refl (S : Nat) (w : World) : Rb S w w := ⟨Nat.le_refl _, fun _ _ _ => rfl⟩
theorem Rb.of {S : Nat} {w w' : World} (h : Below w.heap.size w w') : Rb S w w' := ⟨h.size, fun _ hk _ => h.block _ hk⟩
theorem Rb.row {S g : Nat} {w : World} (cs : Array Value) (hg : g = S) : Rb S w (w.setRow g cs) := by
  subst hg
  exact ⟨by simp, fun k _ hk => setRow_other _ _ _ _ hk⟩
/-- .. that lies elsewhere stays. -/
def DgS (S n V : Nat) (v : Value) (w : World) : Prop := ∃ (b cap : Nat) (d : Nat → Nat), v = .slice (some ⟨b, 0, none⟩) n cap ∧ b ≠ S ∧ Dg w b n d ∧ (∀ j, j < n → d j < 65536) ∧ vd d n = V
theorem DgS.keep {S n V : Nat} {v : Value} {w w' : World} (hR : Rb S w w') (h : DgS S n V v w) : DgS S n V v w' := by
  obtain ⟨b, cap, d, rfl, hne, hD, h1, h2⟩ := h
  exact ⟨b, cap, d, rfl, hne, ⟨Nat.lt_of_lt_of_le hD.1 hR.1, fun j hj => (World.cell?_of_block (w := w) (a := ⟨b, j, none⟩) (hR.2 b hD.1 hne)).trans (hD.2 j hj)⟩, h1, h2⟩

/-- .. and if that one holds the word V, it goes on to. -/
def Rs (S V : Nat) (w w' : World) : Prop := Rb S w w' ∧ (w.heap[S]? = some (.cells (pw V) 24 (0, 0)) → w'.heap[S]? = some (.cells (pw V) 24 (0, 0)))
theorem Rs.refl (S V : Nat) (w : World) : Rs S V w w := ⟨Rb.refl _ _, id⟩
theorem Rs.of {S V : Nat} {w w' : World} (hS : S < w.heap.size) (h : Below w.heap.size w w') : Rs S V w w' := ⟨Rb.of h, fun e => (h.block _ hS).trans e⟩
theorem Rs.row {S V : Nat} {w : World} {cs : Array Value} (hg : w.heap[S]? = some (.cells cs 24 (0, 0))) : Rs S V w (w.setRow S (pw V)) := ⟨Rb.row _ rfl, fun _ => setRow_heap _ _ _ _ _ _ hg⟩
theorem mk_step {S n V : Nat} {w w' : World} {e : Ending} (hS : S < w.heap.size) (h : MkDg n V w e w') : ∃ v, e = .returned v ∧ Below w.heap.size w w' ∧ DgS S n V v w' := by
  obtain ⟨b, cap, d, rfl, hb, hD, h1, h2, hB⟩ := h
  exact ⟨_, rfl, hB, b, cap, d, rfl, by omega, hD, h1, h2⟩

/-- The worlds of a call on two words that lie in the call's first two blocks, its result in the third. -/
def CB (w : World) (x y : Nat) (wx : World) : Prop :=
  Below w.heap.size w wx ∧ wx.heap[w.heap.size]? = some (.cells (pw x) 24 (0, 0)) ∧ wx.heap[w.heap.size + 1]? = some (.cells (pw y) 24 (0, 0)) ∧ ∃ cs : Array Value, cs.size = 4 ∧ wx.heap[w.heap.size + 1 + 1]? = some (.cells cs 24 (0, 0))
theorem CB.lt {w wx : World} {x y : Nat} (h : CB w x y wx) : w.heap.size + 1 + 1 < wx.heap.size := by
  obtain ⟨-, -, -, cs, -, hc⟩ := h
  exact (Array.getElem?_eq_some_iff.1 hc).1
theorem CB.below {w wx w' : World} {x y : Nat} (h : CB w x y wx) (hb : Below wx.heap.size wx w') : CB w x y w' := by
  have hl := h.lt
  obtain ⟨h0, h1, h2, cs, hs, hc⟩ := h
  exact ⟨h0.trans (hb.mono h0.size), (hb.block _ (by omega)).trans h1, (hb.block _ (by omega)).trans h2, cs, hs, (hb.block _ hl).trans hc⟩
theorem CB.row {w wx : World} {x y : Nat} (h : CB w x y wx) (cs : Array Value) (hs : cs.size = 4) : CB w x y (wx.setRow (w.heap.size + 1 + 1) cs) := by
  obtain ⟨h0, h1, h2, cs0, hs0, hc⟩ := h
  exact ⟨below_setRow h0 (by omega) _, (setRow_other _ _ _ _ (by omega)).trans h1, (setRow_other _ _ _ _ (by omega)).trans h2, cs, hs, setRow_heap _ _ _ _ _ _ hc⟩
theorem load_pw {g x : Nat} {w : World} (hg : w.heap[g]? = some (.cells (pw x) 24 (0, 0))) : (Instr.loadAt 24 (.pointer (some ⟨g, 0, none⟩))).run Tryd.prog w = .ok (wv x) w := by
  simp only [Instr.loadAt, Instr.sureAddr, Sem.run_bind, Sem.run_pure, Result.andThen_ok, run_loadVar_row w g 24 24 (pw x) (0, 0) _ hg Tryd.underlying24 rfl infoWord]
  rfl
theorem store_pw {g x : Nat} {w : World} {cs : Array Value} (hs : cs.size = 4) (hg : w.heap[g]? = some (.cells cs 24 (0, 0))) : (Instr.storeAt 24 (.pointer (some ⟨g, 0, none⟩)) (wv x)).run Tryd.prog w = .ok () (w.setRow g (pw x)) := by
  rw [wv_pw]
  simp only [Instr.storeAt, Instr.sureAddr, Sem.run_bind, Sem.run_pure, Result.andThen_ok, run_storeVar_row w g 24 24 cs (pw x) hg infoWord hs (pw_one x)]
theorem run_store {P : Program} {a : Act} {o : Oper} {w w' : World} (t : TypeId) (p q : Operand) (u v : Value) (ho : o.op = .store t p q) (hp : a.eval p = u) (hq : a.eval q = v) (h : (Instr.storeAt t u v).run P w = .ok () w') : (execOp a.eval o).run P w = .ok .skip w' := by
  unfold execOp
  rw [ho]
  simp only [hp, hq, Sem.run_bind, h, Result.andThen_ok, Sem.run_pure]

set_option maxRecDepth 100000 in
set_option maxHeartbeats 2000000 in
-- WHAT add COMES TO.
theorem add_ref (x y : Nat) (w : World) :
    Calls Tryd.prog 14 #[.agg (pw x), .agg (pw y)] w fun e w' => e = .returned (wv (x + y)) ∧ Below w.heap.size w w' := by
  have E : wv (x % 115792089237316195423570985008687907853269984665640564039457584007913129639936 + y % 115792089237316195423570985008687907853269984665640564039457584007913129639936) = wv (x + y) := wv_congr (by omega)
  rw [← E]
  clear E
  go_enter Tryd.func14, Tryd.ntmps14
  go_wp2_with fail
  refine region_inv (CB w x y) (fun i v wx => match i with | 0 => v = wv x | 1 => DgS (w.heap.size + 1 + 1) 16 (x % 115792089237316195423570985008687907853269984665640564039457584007913129639936) v wx | 2 => v = wv y | 3 => DgS (w.heap.size + 1 + 1) 16 (y % 115792089237316195423570985008687907853269984665640564039457584007913129639936) v wx | 4 => DgS (w.heap.size + 1 + 1) 17 (x % 115792089237316195423570985008687907853269984665640564039457584007913129639936 + y % 115792089237316195423570985008687907853269984665640564039457584007913129639936) v wx | 5 => v = wv (x % 115792089237316195423570985008687907853269984665640564039457584007913129639936 + y % 115792089237316195423570985008687907853269984665640564039457584007913129639936) | 6 => wx.heap[(w.heap.size + 1 + 1)]? = some (.cells (pw (x % 115792089237316195423570985008687907853269984665640564039457584007913129639936 + y % 115792089237316195423570985008687907853269984665640564039457584007913129639936)) 24 (0, 0)) | _ => True) (Rs (w.heap.size + 1 + 1) (x % 115792089237316195423570985008687907853269984665640564039457584007913129639936 + y % 115792089237316195423570985008687907853269984665640564039457584007913129639936)) (by kernel_rfl) (by kernel_rfl) ?_ ?_ ?_ ?_
  · exact ⟨by go_grown, (heap3 _ _ _ _).1, (heap3 _ _ _ _).2.1, _, rfl, (heap3 _ _ _ _).2.2⟩
  · intro i v wa wb hR h
    match i, h with
    | 0, h => exact h
    | 1, h => exact DgS.keep hR.1 h
    | 2, h => exact h
    | 3, h => exact DgS.keep hR.1 h
    | 4, h => exact DgS.keep hR.1 h
    | 5, h => exact h
    | 6, h => exact hR.2 h
    | _ + 7, _ => trivial
  · refine ⟨fun a wx hC hK => ?_, fun a wx hC hK => ?_, fun a wx hC hK => ?_, fun a wx hC hK => ?_, fun a wx hC hK => ?_, fun a wx hC hK => ?_, fun a wx hC hK => ?_, trivial⟩
    · exact st_load 24 (.tmp 2) (.pointer (some ⟨w.heap.size, 0, none⟩)) (wv x) rfl (by kernel_rfl) (fun h => by cases h) (hK.1 2 (by kernel_rfl)) (load_pw hC.2.1) hC rfl (Rs.refl _ _ _)
    · have h0 : a.tmps.getD 5 undef = wv x := hK.2 ⟨0, .data⟩ (by simp) rfl _ rfl
      refine st_call 63 #[a.tmps.getD 5 undef] (by kernel_rfl) ⟨_, rfl⟩ (by kernel_rfl) ?_
      rw [h0]
      refine (digits_any x wx).mono fun e w' h => ?_
      obtain ⟨v, he, hb, hv⟩ := mk_step hC.lt h
      exact ⟨v, he, hC.below hb, hv, Rs.of hC.lt hb⟩
    · exact st_load 24 (.tmp 3) (.pointer (some ⟨w.heap.size + 1, 0, none⟩)) (wv y) rfl (by kernel_rfl) (fun h => by cases h) (hK.1 3 (by kernel_rfl)) (load_pw hC.2.2.1) hC rfl (Rs.refl _ _ _)
    · have h0 : a.tmps.getD 7 undef = wv y := hK.2 ⟨2, .data⟩ (by simp) rfl _ rfl
      refine st_call 63 #[a.tmps.getD 7 undef] (by kernel_rfl) ⟨_, rfl⟩ (by kernel_rfl) ?_
      rw [h0]
      refine (digits_any y wx).mono fun e w' h => ?_
      obtain ⟨v, he, hb, hv⟩ := mk_step hC.lt h
      exact ⟨v, he, hC.below hb, hv, Rs.of hC.lt hb⟩
    · obtain ⟨b1, c1, d1, e1, -, hD1, hl1, hv1⟩ : DgS (w.heap.size + 1 + 1) 16 (x % 115792089237316195423570985008687907853269984665640564039457584007913129639936) (a.tmps.getD 6 undef) wx := hK.2 ⟨1, .data⟩ (by simp) rfl _ rfl
      obtain ⟨b2, c2, d2, e2, -, hD2, hl2, hv2⟩ : DgS (w.heap.size + 1 + 1) 16 (y % 115792089237316195423570985008687907853269984665640564039457584007913129639936) (a.tmps.getD 8 undef) wx := hK.2 ⟨3, .data⟩ (by simp) rfl _ rfl
      refine st_call 62 #[a.tmps.getD 6 undef, a.tmps.getD 8 undef] (by kernel_rfl) ⟨_, rfl⟩ (by kernel_rfl) ?_
      rw [e1, e2]
      refine (sum_any b1 c1 b2 c2 16 16 d1 d2 (by decide) (by decide) hl1 hl2 wx hD1 hD2).mono fun e w' h => ?_
      rw [hv1, hv2] at h
      obtain ⟨v, he, hb, hv⟩ := mk_step hC.lt h
      exact ⟨v, he, hC.below hb, hv, Rs.of hC.lt hb⟩
    · obtain ⟨b1, c1, d1, e1, -, hD1, hl1, hv1⟩ : DgS (w.heap.size + 1 + 1) 17 (x % 115792089237316195423570985008687907853269984665640564039457584007913129639936 + y % 115792089237316195423570985008687907853269984665640564039457584007913129639936) (a.tmps.getD 9 undef) wx := hK.2 ⟨4, .data⟩ (by simp) rfl _ rfl
      refine st_call 61 #[a.tmps.getD 9 undef] (by kernel_rfl) ⟨_, rfl⟩ (by kernel_rfl) ?_
      rw [e1]
      refine (word_any b1 c1 17 d1 (by decide) hl1 wx hD1).mono fun e w' h => ?_
      rw [hv1] at h
      exact ⟨_, h.1, hC.below h.2, rfl, Rs.of hC.lt h.2⟩
    · have h0 : a.tmps.getD 10 undef = wv (x % 115792089237316195423570985008687907853269984665640564039457584007913129639936 + y % 115792089237316195423570985008687907853269984665640564039457584007913129639936) := hK.2 ⟨5, .data⟩ (by simp) rfl _ rfl
      obtain ⟨-, -, -, cs, hcs, hrow⟩ := id hC
      exact st_store (by kernel_rfl) (run_store 24 (.tmp 4) (.tmp 10) _ _ rfl (hK.1 4 (by kernel_rfl)) h0 (store_pw hcs hrow)) (hC.row _ rfl) (setRow_heap _ _ _ _ _ _ hrow) (Rs.row hrow)
  · intro f wx hC hf
    have h6 : wx.heap[(w.heap.size + 1 + 1)]? = some (.cells (pw (x % 115792089237316195423570985008687907853269984665640564039457584007913129639936 + y % 115792089237316195423570985008687907853269984665640564039457584007913129639936)) 24 (0, 0)) := hf 6 _ rfl
    generalize hA : putAll _ _ _ = A
    have h4 : A.tmps.getD 4 undef = Value.pointer (some ⟨(w.heap.size + 1 + 1), 0, none⟩) := by subst hA; kernel_rfl
    have hd : A.defers = [] := by subst hA; kernel_rfl
    clear hA hf
    go_wp2
    (try simp only [Exit.inBlock, Exit.then])
    exact bodyPost_ret (v := .agg (pw (x % 115792089237316195423570985008687907853269984665640564039457584007913129639936 + y % 115792089237316195423570985008687907853269984665640564039457584007913129639936))) (results_cell_row (p := 4) rfl _ _ (w.heap.size + 1 + 1) 24 _ (0, 0) _ h4 h6 Tryd.underlying24 rfl infoWord) hd ⟨rfl, hC.1⟩

set_option maxRecDepth 100000 in
set_option maxHeartbeats 2000000 in
-- WHAT mul COMES TO.
theorem mul_ref (x y : Nat) (w : World) :
    Calls Tryd.prog 18 #[.agg (pw x), .agg (pw y)] w fun e w' => e = .returned (wv (x * y)) ∧ Below w.heap.size w w' := by
  have E : wv (x % 115792089237316195423570985008687907853269984665640564039457584007913129639936 * (y % 115792089237316195423570985008687907853269984665640564039457584007913129639936)) = wv (x * y) := wv_congr (by rw [← Nat.mul_mod])
  rw [← E]
  clear E
  go_enter Tryd.func18, Tryd.ntmps18
  go_wp2_with fail
  refine region_inv (CB w x y) (fun i v wx => match i with | 0 => v = wv x | 1 => DgS (w.heap.size + 1 + 1) 16 (x % 115792089237316195423570985008687907853269984665640564039457584007913129639936) v wx | 2 => v = wv y | 3 => DgS (w.heap.size + 1 + 1) 16 (y % 115792089237316195423570985008687907853269984665640564039457584007913129639936) v wx | 4 => DgS (w.heap.size + 1 + 1) 32 (x % 115792089237316195423570985008687907853269984665640564039457584007913129639936 * (y % 115792089237316195423570985008687907853269984665640564039457584007913129639936)) v wx | 5 => v = wv (x % 115792089237316195423570985008687907853269984665640564039457584007913129639936 * (y % 115792089237316195423570985008687907853269984665640564039457584007913129639936)) | 6 => wx.heap[(w.heap.size + 1 + 1)]? = some (.cells (pw (x % 115792089237316195423570985008687907853269984665640564039457584007913129639936 * (y % 115792089237316195423570985008687907853269984665640564039457584007913129639936))) 24 (0, 0)) | _ => True) (Rs (w.heap.size + 1 + 1) (x % 115792089237316195423570985008687907853269984665640564039457584007913129639936 * (y % 115792089237316195423570985008687907853269984665640564039457584007913129639936))) (by kernel_rfl) (by kernel_rfl) ?_ ?_ ?_ ?_
  · exact ⟨by go_grown, (heap3 _ _ _ _).1, (heap3 _ _ _ _).2.1, _, rfl, (heap3 _ _ _ _).2.2⟩
  · intro i v wa wb hR h
    match i, h with
    | 0, h => exact h
    | 1, h => exact DgS.keep hR.1 h
    | 2, h => exact h
    | 3, h => exact DgS.keep hR.1 h
    | 4, h => exact DgS.keep hR.1 h
    | 5, h => exact h
    | 6, h => exact hR.2 h
    | _ + 7, _ => trivial
  · refine ⟨fun a wx hC hK => ?_, fun a wx hC hK => ?_, fun a wx hC hK => ?_, fun a wx hC hK => ?_, fun a wx hC hK => ?_, fun a wx hC hK => ?_, fun a wx hC hK => ?_, trivial⟩
    · exact st_load 24 (.tmp 2) (.pointer (some ⟨w.heap.size, 0, none⟩)) (wv x) rfl (by kernel_rfl) (fun h => by cases h) (hK.1 2 (by kernel_rfl)) (load_pw hC.2.1) hC rfl (Rs.refl _ _ _)
    · have h0 : a.tmps.getD 5 undef = wv x := hK.2 ⟨0, .data⟩ (by simp) rfl _ rfl
      refine st_call 63 #[a.tmps.getD 5 undef] (by kernel_rfl) ⟨_, rfl⟩ (by kernel_rfl) ?_
      rw [h0]
      refine (digits_any x wx).mono fun e w' h => ?_
      obtain ⟨v, he, hb, hv⟩ := mk_step hC.lt h
      exact ⟨v, he, hC.below hb, hv, Rs.of hC.lt hb⟩
    · exact st_load 24 (.tmp 3) (.pointer (some ⟨w.heap.size + 1, 0, none⟩)) (wv y) rfl (by kernel_rfl) (fun h => by cases h) (hK.1 3 (by kernel_rfl)) (load_pw hC.2.2.1) hC rfl (Rs.refl _ _ _)
    · have h0 : a.tmps.getD 7 undef = wv y := hK.2 ⟨2, .data⟩ (by simp) rfl _ rfl
      refine st_call 63 #[a.tmps.getD 7 undef] (by kernel_rfl) ⟨_, rfl⟩ (by kernel_rfl) ?_
      rw [h0]
      refine (digits_any y wx).mono fun e w' h => ?_
      obtain ⟨v, he, hb, hv⟩ := mk_step hC.lt h
      exact ⟨v, he, hC.below hb, hv, Rs.of hC.lt hb⟩
    · obtain ⟨b1, c1, d1, e1, -, hD1, hl1, hv1⟩ : DgS (w.heap.size + 1 + 1) 16 (x % 115792089237316195423570985008687907853269984665640564039457584007913129639936) (a.tmps.getD 6 undef) wx := hK.2 ⟨1, .data⟩ (by simp) rfl _ rfl
      obtain ⟨b2, c2, d2, e2, -, hD2, hl2, hv2⟩ : DgS (w.heap.size + 1 + 1) 16 (y % 115792089237316195423570985008687907853269984665640564039457584007913129639936) (a.tmps.getD 8 undef) wx := hK.2 ⟨3, .data⟩ (by simp) rfl _ rfl
      refine st_call 68 #[a.tmps.getD 6 undef, a.tmps.getD 8 undef] (by kernel_rfl) ⟨_, rfl⟩ (by kernel_rfl) ?_
      rw [e1, e2]
      refine (product_digits b1 c1 b2 c2 16 16 d1 d2 (by decide) (by decide) hl1 hl2 wx hD1 hD2).mono fun e w' h => ?_
      rw [hv1, hv2] at h
      obtain ⟨v, he, hb, hv⟩ := mk_step hC.lt h
      exact ⟨v, he, hC.below hb, hv, Rs.of hC.lt hb⟩
    · obtain ⟨b1, c1, d1, e1, -, hD1, hl1, hv1⟩ : DgS (w.heap.size + 1 + 1) 32 (x % 115792089237316195423570985008687907853269984665640564039457584007913129639936 * (y % 115792089237316195423570985008687907853269984665640564039457584007913129639936)) (a.tmps.getD 9 undef) wx := hK.2 ⟨4, .data⟩ (by simp) rfl _ rfl
      refine st_call 61 #[a.tmps.getD 9 undef] (by kernel_rfl) ⟨_, rfl⟩ (by kernel_rfl) ?_
      rw [e1]
      refine (word_any b1 c1 32 d1 (by decide) hl1 wx hD1).mono fun e w' h => ?_
      rw [hv1] at h
      exact ⟨_, h.1, hC.below h.2, rfl, Rs.of hC.lt h.2⟩
    · have h0 : a.tmps.getD 10 undef = wv (x % 115792089237316195423570985008687907853269984665640564039457584007913129639936 * (y % 115792089237316195423570985008687907853269984665640564039457584007913129639936)) := hK.2 ⟨5, .data⟩ (by simp) rfl _ rfl
      obtain ⟨-, -, -, cs, hcs, hrow⟩ := id hC
      exact st_store (by kernel_rfl) (run_store 24 (.tmp 4) (.tmp 10) _ _ rfl (hK.1 4 (by kernel_rfl)) h0 (store_pw hcs hrow)) (hC.row _ rfl) (setRow_heap _ _ _ _ _ _ hrow) (Rs.row hrow)
  · intro f wx hC hf
    have h6 : wx.heap[(w.heap.size + 1 + 1)]? = some (.cells (pw (x % 115792089237316195423570985008687907853269984665640564039457584007913129639936 * (y % 115792089237316195423570985008687907853269984665640564039457584007913129639936))) 24 (0, 0)) := hf 6 _ rfl
    generalize hA : putAll _ _ _ = A
    have h4 : A.tmps.getD 4 undef = Value.pointer (some ⟨(w.heap.size + 1 + 1), 0, none⟩) := by subst hA; kernel_rfl
    have hd : A.defers = [] := by subst hA; kernel_rfl
    clear hA hf
    go_wp2
    (try simp only [Exit.inBlock, Exit.then])
    exact bodyPost_ret (v := .agg (pw (x % 115792089237316195423570985008687907853269984665640564039457584007913129639936 * (y % 115792089237316195423570985008687907853269984665640564039457584007913129639936)))) (results_cell_row (p := 4) rfl _ _ (w.heap.size + 1 + 1) 24 _ (0, 0) _ h4 h6 Tryd.underlying24 rfl infoWord) hd ⟨rfl, hC.1⟩

set_option maxRecDepth 100000 in
set_option maxHeartbeats 1000000 in
theorem notr_walk (a0 a1 a2 a3 : Nat) (w : World) :
    Calls Tryd.prog 44 #[.agg #[.int .u64 a0, .int .u64 a1, .int .u64 a2, .int .u64 a3]] w fun e w' => e = .returned (.agg #[.int .u64 (bits .xor .u64 IntKind.u64.max (a0 : Int)), .int .u64 (bits .xor .u64 IntKind.u64.max (a1 : Int)), .int .u64 (bits .xor .u64 IntKind.u64.max (a2 : Int)), .int .u64 (bits .xor .u64 IntKind.u64.max (a3 : Int))]) ∧ Below w.heap.size w w' := by
  go_enter Tryd.func44, Tryd.ntmps44
  go_wp2
  go_returns
  exact ⟨rfl, by go_grown⟩
-- WHAT bailiwickref01.Not COMES TO.
theorem not_ref (x : Nat) (w : World) :
    Calls Tryd.prog 44 #[wv x] w fun e w' => e = .returned (wv (115792089237316195423570985008687907853269984665640564039457584007913129639935 - x % 115792089237316195423570985008687907853269984665640564039457584007913129639936)) ∧ Below w.heap.size w w' := by
  obtain ⟨a0, a1, a2, a3, u0, u1, u2, u3, ea, na⟩ := wv_parts x
  rw [ea, ← na, ← n4_comp (c0 := 18446744073709551615 - a0) (c1 := 18446744073709551615 - a1) (c2 := 18446744073709551615 - a2) (c3 := 18446744073709551615 - a3) (by omega) (by omega) (by omega) (by omega), wv_n4 (by omega) (by omega) (by omega) (by omega), ← xor_ones u0, ← xor_ones u1, ← xor_ones u2, ← xor_ones u3]
  exact notr_walk a0 a1 a2 a3 w

set_option maxRecDepth 100000 in
set_option maxHeartbeats 1000000 in
theorem negr_walk (a0 a1 a2 a3 p0 p1 p2 p3 : Nat) (Va Vn : Value) (ea : Va = .agg #[.int .u64 a0, .int .u64 a1, .int .u64 a2, .int .u64 a3]) (w : World)
    (hN : ∀ w, Calls Tryd.prog 44 #[.agg #[.int .u64 a0, .int .u64 a1, .int .u64 a2, .int .u64 a3]] w fun e w' => e = .returned Vn ∧ Below w.heap.size w w')
    (hA : ∀ w, Calls Tryd.prog 14 #[Vn, .agg #[.int .u64 1, .int .u64 0, .int .u64 0, .int .u64 0]] w fun e w' => e = .returned (.agg #[.int .u64 p0, .int .u64 p1, .int .u64 p2, .int .u64 p3]) ∧ Below w.heap.size w w') :
    Calls Tryd.prog 65 #[Va] w fun e w' => e = .returned (.agg #[.int .u64 p0, .int .u64 p1, .int .u64 p2, .int .u64 p3]) ∧ Below w.heap.size w w' := by
  subst ea
  go_enter Tryd.func65, Tryd.ntmps65
  go_wp2_with fail
  refine (hN _).mono ?_
  rintro e w1 ⟨rfl, hb⟩
  obtain ⟨⟨q0, q1, q2, q3⟩, ⟨f0, f1, f2, f3⟩, hz, hb'⟩ := after4 (w := w) (B := w.heap.size) (w.heap.size + 1) hb (by go_grown) (by simp; omega) (by simp) (by go_cell) (by go_cell) (by go_cell) (by go_cell) (by go_cell) (by go_cell) (by go_cell) (by go_cell)
  clear hb
  go_wp2_with fail
  refine (hA _).mono ?_
  rintro e w2 ⟨rfl, hb⟩
  obtain ⟨⟨r0, r1, r2, r3⟩, ⟨g0, g1, g2, g3⟩, hy, hb''⟩ := after4 (w := w) (B := w.heap.size) (w.heap.size + 1) hb hb' hb'.size hz q0 q1 q2 q3 f0 f1 f2 f3
  clear hb q0 q1 q2 q3 f0 f1 f2 f3 hz
  go_wp2
  refine bodyPost_ret (by simp [results, Tryd.results65, go_sem, r0, r1, r2, r3]; try rfl) rfl ⟨rfl, ?_⟩
  go_grown
-- WHAT bailiwickref01.Neg COMES TO.
theorem neg_ref (x : Nat) (w : World) :
    Calls Tryd.prog 65 #[wv x] w fun e w' => e = .returned (wv (115792089237316195423570985008687907853269984665640564039457584007913129639936 - x % 115792089237316195423570985008687907853269984665640564039457584007913129639936)) ∧ Below w.heap.size w w' := by
  obtain ⟨a0, a1, a2, a3, -, -, -, -, ea, -⟩ := wv_parts x
  obtain ⟨p0, p1, p2, p3, -, -, -, -, ep, -⟩ := wv_parts (115792089237316195423570985008687907853269984665640564039457584007913129639936 - x % 115792089237316195423570985008687907853269984665640564039457584007913129639936)
  have hN := fun w => not_ref x w
  rw [ea] at hN
  rw [ep]
  refine negr_walk a0 a1 a2 a3 p0 p1 p2 p3 (wv x) _ ea w hN (fun w => ?_)
  rw [← ep]
  have h := add_ref (115792089237316195423570985008687907853269984665640564039457584007913129639935 - x % 115792089237316195423570985008687907853269984665640564039457584007913129639936) 1 w
  rw [show 115792089237316195423570985008687907853269984665640564039457584007913129639935 - x % 115792089237316195423570985008687907853269984665640564039457584007913129639936 + 1 = 115792089237316195423570985008687907853269984665640564039457584007913129639936 - x % 115792089237316195423570985008687907853269984665640564039457584007913129639936 by omega] at h
  exact h

set_option maxRecDepth 100000 in
set_option maxHeartbeats 2000000 in
-- WHAT bailiwickref01.Sub COMES TO.
theorem sub_ref (x y : Nat) (w : World) :
    Calls Tryd.prog 16 #[.agg (pw x), .agg (pw y)] w fun e w' => e = .returned (wv (x + (115792089237316195423570985008687907853269984665640564039457584007913129639936 - y % 115792089237316195423570985008687907853269984665640564039457584007913129639936))) ∧ Below w.heap.size w w' := by
  go_enter Tryd.func16, Tryd.ntmps16
  go_wp2_with fail
  refine region_inv (CB w x y) (fun i v wx => match i with | 0 => v = wv x | 1 => v = wv y | 2 => v = wv (115792089237316195423570985008687907853269984665640564039457584007913129639936 - y % 115792089237316195423570985008687907853269984665640564039457584007913129639936) | 3 => v = wv (x + (115792089237316195423570985008687907853269984665640564039457584007913129639936 - y % 115792089237316195423570985008687907853269984665640564039457584007913129639936)) | 4 => wx.heap[(w.heap.size + 1 + 1)]? = some (.cells (pw (x + (115792089237316195423570985008687907853269984665640564039457584007913129639936 - y % 115792089237316195423570985008687907853269984665640564039457584007913129639936))) 24 (0, 0)) | _ => True) (Rs (w.heap.size + 1 + 1) (x + (115792089237316195423570985008687907853269984665640564039457584007913129639936 - y % 115792089237316195423570985008687907853269984665640564039457584007913129639936))) (by kernel_rfl) (by kernel_rfl) ?_ ?_ ?_ ?_
  · exact ⟨by go_grown, (heap3 _ _ _ _).1, (heap3 _ _ _ _).2.1, _, rfl, (heap3 _ _ _ _).2.2⟩
  · intro i v wa wb hR h
    match i, h with
    | 0, h => exact h
    | 1, h => exact h
    | 2, h => exact h
    | 3, h => exact h
    | 4, h => exact hR.2 h
    | _ + 5, _ => trivial
  · refine ⟨fun a wx hC hK => ?_, fun a wx hC hK => ?_, fun a wx hC hK => ?_, fun a wx hC hK => ?_, fun a wx hC hK => ?_, trivial⟩
    · exact st_load 24 (.tmp 2) (.pointer (some ⟨w.heap.size, 0, none⟩)) (wv x) rfl (by kernel_rfl) (fun h => by cases h) (hK.1 2 (by kernel_rfl)) (load_pw hC.2.1) hC rfl (Rs.refl _ _ _)
    · exact st_load 24 (.tmp 3) (.pointer (some ⟨w.heap.size + 1, 0, none⟩)) (wv y) rfl (by kernel_rfl) (fun h => by cases h) (hK.1 3 (by kernel_rfl)) (load_pw hC.2.2.1) hC rfl (Rs.refl _ _ _)
    · have h0 : a.tmps.getD 6 undef = wv y := hK.2 ⟨1, .data⟩ (by simp) rfl _ rfl
      refine st_call 65 #[a.tmps.getD 6 undef] (by kernel_rfl) ⟨_, rfl⟩ (by kernel_rfl) ?_
      rw [h0]
      exact (neg_ref y wx).mono fun e w' h => ⟨_, h.1, hC.below h.2, rfl, Rs.of hC.lt h.2⟩
    · have h0 : a.tmps.getD 5 undef = wv x := hK.2 ⟨0, .data⟩ (by simp) rfl _ rfl
      have h1 : a.tmps.getD 7 undef = wv (115792089237316195423570985008687907853269984665640564039457584007913129639936 - y % 115792089237316195423570985008687907853269984665640564039457584007913129639936) := hK.2 ⟨2, .data⟩ (by simp) rfl _ rfl
      refine st_call 14 #[a.tmps.getD 5 undef, a.tmps.getD 7 undef] (by kernel_rfl) ⟨_, rfl⟩ (by kernel_rfl) ?_
      rw [h0, h1]
      exact (add_ref x (115792089237316195423570985008687907853269984665640564039457584007913129639936 - y % 115792089237316195423570985008687907853269984665640564039457584007913129639936) wx).mono fun e w' h => ⟨_, h.1, hC.below h.2, rfl, Rs.of hC.lt h.2⟩
    · have h0 : a.tmps.getD 8 undef = wv (x + (115792089237316195423570985008687907853269984665640564039457584007913129639936 - y % 115792089237316195423570985008687907853269984665640564039457584007913129639936)) := hK.2 ⟨3, .data⟩ (by simp) rfl _ rfl
      obtain ⟨-, -, -, cs, hcs, hrow⟩ := id hC
      exact st_store (by kernel_rfl) (run_store 24 (.tmp 4) (.tmp 8) _ _ rfl (hK.1 4 (by kernel_rfl)) h0 (store_pw hcs hrow)) (hC.row _ rfl) (setRow_heap _ _ _ _ _ _ hrow) (Rs.row hrow)
  · intro f wx hC hf
    have h6 : wx.heap[(w.heap.size + 1 + 1)]? = some (.cells (pw (x + (115792089237316195423570985008687907853269984665640564039457584007913129639936 - y % 115792089237316195423570985008687907853269984665640564039457584007913129639936))) 24 (0, 0)) := hf 4 _ rfl
    generalize hA : putAll _ _ _ = A
    have h4 : A.tmps.getD 4 undef = Value.pointer (some ⟨(w.heap.size + 1 + 1), 0, none⟩) := by subst hA; kernel_rfl
    have hd : A.defers = [] := by subst hA; kernel_rfl
    clear hA hf
    go_wp2
    (try simp only [Exit.inBlock, Exit.then])
    exact bodyPost_ret (v := .agg (pw (x + (115792089237316195423570985008687907853269984665640564039457584007913129639936 - y % 115792089237316195423570985008687907853269984665640564039457584007913129639936)))) (results_cell_row (p := 4) rfl _ _ (w.heap.size + 1 + 1) 24 _ (0, 0) _ h4 h6 Tryd.underlying24 rfl infoWord) hd ⟨rfl, hC.1⟩
end Go.Proofs.YthfadinocadhaaaDoor

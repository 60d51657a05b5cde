/- What the statements about nat call of their own: own, few, same. -/
import Derived.Test.YtgegkffigjogcaaNApi
import Derived.BigQuiet
namespace Go.Proofs.Ytgegkffigjogcaa
open Go.RowKit

set_option maxRecDepth 100000 in
set_option maxHeartbeats 1000000 in
theorem own_some (b o n cap : Nat) (f : Nat → Nat) (hn : (n : Int) ≤ 35184372088832) (w : World) (hP : Pt w b o n f) :
    Calls Try.prog 13 #[.slice (some ⟨b, o, none⟩) n cap] w (MkN n f w) := by
  have HP := Lib.hid hP; clear hP
  obtain ⟨i0, hi, hz0, hz1, hz2⟩ := info_parts info32
  go_enter Try.func13, Try.ntmps13
  go_wp2_with (at_builtin; refine wpList_append_own _ rfl _ _ 23 rfl w.heap.size 32 i0 (.int .u32 0) 1 4 Try.underlying23 hi hz0 hz1 hz2 rfl (by decide) _ 0 [] rfl (World.ownsRow_made (base := w.heap.size) (e := 32) (size := 1) w #[] 0 (by simp) (by decide) (by simp)) ⟨b, o, none⟩ n cap (pl f n) rfl (by rw [pl_len, Nat.mul_one]) ?c1 ?c2 ?c3 ?c4 ?c5 ?_)
  case c1 => exact news_pl (HP.out.below ((Below.refl _ _).alloc (Nat.le_refl _) _))
  case c2 => exact one_pl f n
  case c3 => unfold maxLen; omega
  case c4 => omega
  case c5 => simp
  intro v' w1 hown' hgrow _
  have HF := Lib.hid (mk_own (w := w) hown' (Nat.le_refl _) (((Below.refl _ _).alloc (Nat.le_refl _) _).grown hgrow (by simp) (fun j hj => by cases hj; exact Nat.le_refl _)))
  clear hown' hgrow
  go_wp2
  go_ret
  exact HF.out
set_option maxRecDepth 100000 in
set_option maxHeartbeats 1000000 in
theorem own_nil (f : Nat → Nat) (w : World) : Calls Try.prog 13 #[.slice none 0 0] w (MkN 0 f w) := by
  obtain ⟨i0, hi, hz0, hz1, hz2⟩ := info_parts info32
  go_enter Try.func13, Try.ntmps13
  go_wp2_with (at_builtin; refine wpList_append_own_none rfl _ _ 23 rfl w.heap.size 32 i0 1 Try.underlying23 hi _ 0 [] rfl (World.ownsRow_made (base := w.heap.size) (e := 32) (size := 1) w #[] 0 (by simp) (by decide) (by simp)) rfl ?_)
  go_wp2
  go_ret
  exact ⟨_, 0, rfl, Nat.le_refl _, .inl rfl, (fun q hq => by cases hq; exact ⟨Nat.le_refl _, by simp⟩), by go_grown⟩
/-- An argument of a statement: none, or a list that lies in memory. -/
def ArgN (w : World) (v : Value) (n : Nat) (f : Nat → Nat) : Prop := ∃ (a : Option Addr) (cap : Nat), v = .slice a n cap ∧ n ≤ cap ∧ (a = none → cap = 0) ∧ RdA w a n f
theorem ArgN.below {w w' : World} {v : Value} {n : Nat} {f : Nat → Nat} (h : ArgN w v n f) (hb : Below w.heap.size w w') : ArgN w' v n f := by
  obtain ⟨a, cap, h1, h2, h3, h4⟩ := h
  exact ⟨a, cap, h1, h2, h3, h4.below hb⟩
set_option maxRecDepth 100000 in
set_option maxHeartbeats 1000000 in
theorem own_void (a : Addr) (cap : Nat) (f : Nat → Nat) (w : World) : Calls Try.prog 13 #[.slice (some a) 0 cap] w (MkN 0 f w) := by
  obtain ⟨i0, hi, hz0, hz1, hz2⟩ := info_parts info32
  go_enter Try.func13, Try.ntmps13
  go_wp2_with (at_builtin; refine wpList_append_own _ rfl _ _ 23 rfl w.heap.size 32 i0 (.int .u32 0) 1 4 Try.underlying23 hi hz0 hz1 hz2 rfl (by decide) _ 0 [] rfl (World.ownsRow_made (base := w.heap.size) (e := 32) (size := 1) w #[] 0 (by simp) (by decide) (by simp)) a 0 cap (pl f 0) rfl (by rw [pl_len, Nat.mul_one]) ?c1 ?c2 ?c3 ?c4 ?c5 ?_)
  case c1 => intro j u hj; simp [pl] at hj
  case c2 => exact one_pl f 0
  case c3 => unfold maxLen; omega
  case c4 => omega
  case c5 => simp
  intro v' w1 hown' hgrow _
  have HF := Lib.hid (mk_own (w := w) hown' (Nat.le_refl _) (((Below.refl _ _).alloc (Nat.le_refl _) _).grown hgrow (by simp) (fun j hj => by cases hj; exact Nat.le_refl _)))
  clear hown' hgrow
  go_wp2
  go_ret
  exact HF.out
-- WHAT own COMES TO: a number of the same parts.
theorem own_any {w : World} {v : Value} {n : Nat} {f : Nat → Nat} (h : ArgN w v n f) (hn : (n : Int) ≤ 35184372088832) (hf : ∀ j, j < n → f j < 4294967296) : Calls Try.prog 13 #[v] w fun e w' => ∃ u, e = .returned u ∧ NN (vb 4294967296 f n) u w' ∧ Below w.heap.size w w' := by
  have key : ∀ {n : Nat}, (n : Int) ≤ 35184372088832 → (∀ j, j < n → f j < 4294967296) → ∀ {e : Ending} {w' : World}, MkN n f w e w' → ∃ u, e = .returned u ∧ NN (vb 4294967296 f n) u w' ∧ Below w.heap.size w w' := by
    rintro n hn hf e w' ⟨a, c, rfl, h1, h2, h3, h4⟩
    exact ⟨_, rfl, ⟨a, n, c, f, rfl, ⟨h1, h2, fun q hq => (h3 q hq).2, hf, hn⟩, rfl⟩, h4⟩
  obtain ⟨a, cap, rfl, hc, hn0, hr⟩ := h
  cases a with
  | none =>
    have h0 := hn0 rfl
    subst h0
    obtain rfl : n = 0 := by omega
    exact (own_nil f w).mono fun e w' h => key hn hf h
  | some q =>
    rcases hr with rfl | ⟨b, o, e, hp⟩
    · exact (own_void q cap f w).mono fun e w' h => key hn hf h
    · injection e with e
      subst e
      exact (own_some b o n cap f hn w hp).mono fun e w' h => key hn hf h
-- WHAT few COMES TO.
theorem few_any {w : World} {v : Value} {n : Nat} {f : Nat → Nat} (h : ArgN w v n f) (k : Nat) (hk : (k : Int) ≤ 1000) : Calls Try.prog 18 #[v, .int .i64 k] w fun e w' => ∃ u, e = .returned u ∧ ArgN w u (min n k) f ∧ w = w' := by
  have hk0 : (0 : Int) ≤ k := by omega
  obtain ⟨a, cap, hv, hc, hn0, hr⟩ := h
  have h : ArgN w v n f := ⟨a, cap, hv, hc, hn0, hr⟩
  subst hv
  by_cases hlt : k < n
  · have hlt' : (k : Int) < n := by omega
    have hsl := slice_nat a n cap k (by omega)
    have h' : ArgN w (.slice a k cap) k f := ⟨a, cap, rfl, by omega, hn0, hr.less k (by omega)⟩
    rw [Nat.min_eq_right (Nat.le_of_lt hlt)]
    have H := Lib.hid h'; clear h' h hr hn0
    go_enter Try.func18, Try.ntmps18
    go_wp2
    go_ret
    exact ⟨_, rfl, H.out, rfl⟩
  · have hlt' : ¬ (k : Int) < n := by omega
    rw [Nat.min_eq_left (by omega)]
    have H := Lib.hid h; clear h hr hn0
    go_enter Try.func18, Try.ntmps18
    go_wp2
    go_ret
    exact ⟨_, rfl, H.out, rfl⟩
set_option maxRecDepth 100000 in
set_option maxHeartbeats 1000000 in
theorem same_walk (a : Option Addr) (n ca : Nat) (b : Option Addr) (cb : Nat) (f : Nat → Nat) (hn : (n : Int) ≤ 35184372088832) (w : World) (hA : RdA w a n f) (hB : RdA w b n f) :
    Calls Try.prog 17 #[.slice a n ca, .slice b n cb] w fun e w' => e = .returned (.bool true) ∧ ∃ m, w' = w.drewN m := by
  have HA := Lib.hid hA; clear hA
  have HB := Lib.hid hB; clear hB
  have e0 : ((n : Int) != n) = false := by simp
  go_enter Try.func17, Try.ntmps17
  go_wp2
  go_loopw [5] (fun iv wr => ∃ i : Nat, i ≤ n ∧ iv = .int .i64 i ∧ Hid (∃ m, wr = w.drewN m)) (fun iv _ => n - (intOf iv).toNat)
  case atStart => exact ⟨0, by omega, rfl, Lib.hid ⟨0, rfl⟩⟩
  case round =>
    obtain ⟨i, hi, rfl, H⟩ := hrel
    have hi0 : (0 : Int) ≤ i := by omega
    obtain ⟨q, hq⟩ := H.out
    subst hq
    by_cases hlt : i < n
    · have hlt' : (i : Int) < n := by omega
      obtain ⟨pa, hxa, -, -, ca'⟩ := HA.out.at_ ca i hlt
      obtain ⟨pb, hxb, -, -, cb'⟩ := HB.out.at_ cb i hlt
      have e1 : (((f i : Nat) : Int) != ((f i : Nat) : Int)) = false := by simp
      clear H
      go_wp2_with fail
      go_quiet (fail)
      go_wp2
      go_roundw
      case rel => exact ⟨i + 1, by omega, by go_num, Lib.hid ⟨q + nq, rfl⟩⟩
      case measure => first | (simp [intOf]; done) | (simp [intOf]; omega)
    · obtain rfl : i = n := by omega
      go_wp2
      go_ret
      exact ⟨rfl, q, rfl⟩
-- WHAT same COMES TO, of one number twice.
theorem same_any {V : Nat} {u v : Value} {w : World} (hu : PV V u w) (hv : PV V v w) : Calls Try.prog 17 #[u, v] w fun e w' => e = .returned (.bool true) ∧ ∃ m, w' = w.drewN m := by
  obtain ⟨a, n, ca, f, rfl, ha, h1, h2⟩ := hu
  obtain ⟨b, m, cb, g, rfl, hb, h3, h4⟩ := hv
  obtain ⟨rfl, he⟩ := plain_inj (P := 4294967296) (by omega) ha.lt hb.lt h2 h4 (h1.trans h3.symm)
  refine same_walk a n ca b cb f ha.few w ha.rd ?_
  rcases hb.rd with h | ⟨bb, oo, e, hp⟩
  · exact .inl h
  · exact .inr ⟨bb, oo, e, hp.1, fun j hj => by rw [he j hj]; exact hp.2 j hj⟩
end Go.Proofs.Ytgegkffigjogcaa

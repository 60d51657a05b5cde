/- append of so many noughts onto a row of one's own; own, its row told. -/
import Derived.Test.YtgegkffigjogcaaNShifts
import Derived.Lib.AppendZerosOnto
namespace Go.Proofs.Ytgegkffigjogcaa
open Go.RowKit

theorem run_append_own_zeros {P : Program} {w : World} (base : Nat) (t tn ty e : TypeId) (i : TypeInfo) (z : Value) (bytes : Nat) (kq kn : IntKind) (ht : P.underlying t = some (.slice e)) (htn : P.underlying tn = some (.int kn)) (hi : P.info? e = some i) (hz : i.zero = some z)
    (hsize : i.size = 1) (hby : i.bytes = bytes) (hzs : z.cells = #[z]) (hz1 : z.oneCell' = true) (g n cap : Nat) (xs : List Value) (hown : w.ownsRow base e 1 (.slice (some ⟨g, 0, none⟩) n cap) n xs)
    (k : Nat) (h63 : n + k ≤ maxLen) (hbytes : (n + k) * bytes ≤ 140737488355328) (hbase : base ≤ w.heap.size) :
    ∃ g' cap' w', (Builtin.append_ #[t, tn] ty #[.slice (some ⟨g, 0, none⟩) n cap, .int kq k]).run P w = .ok (.slice (some ⟨g', 0, none⟩) (n + k) cap') w' ∧ w'.ownsRow base e 1 (.slice (some ⟨g', 0, none⟩) (n + k) cap') (n + k) (xs ++ List.replicate k z) ∧ w.grownBy w' (some g) := by
  have hzc : ∀ m, (Builtin.zeroCells z.cells m).toList = List.replicate m z := by
    intro m
    rw [hzs]
    apply List.ext_getElem
    · simp [Builtin.zeroCells]
    · intro j h1 h2
      simp [Builtin.zeroCells, Nat.mod_one]
  have hzn : ∀ m, (Builtin.zeroCells z.cells m).size = m := fun m => by rw [← Array.length_toList, hzc, List.length_replicate]
  have hxl : xs.length = n := by have := hown.1; omega
  subst hby
  rcases hown.2 with ⟨h, -⟩ | ⟨g2, cap2, cur, hv, hbg, hg, hnc, hcm, hcs, htake⟩
  · cases h
  injection hv with h1 h2 h3
  injection h1 with h1
  injection h1 with h1
  subst h1
  subst h3
  clear h2
  rw [Nat.mul_one] at hcs htake
  have hm : n + k ≤ 9223372036854775807 := by simp only [maxLen] at h63; omega
  by_cases hroom : n + k ≤ cap
  · have h0 : (0 : Int) ≤ k := by omega
    have hw : IntKind.i64.wrap (k : Int) = k := by rw [IntKind.wrap_i64]; omega
    have hneg : ¬ ((k : Int) < 0) := by omega
    have hfits : ¬ (281474976710656 < (k : Int) * (i.bytes : Int)) := by
      rw [← Int.natCast_mul]
      have : k * i.bytes ≤ (n + k) * i.bytes := Nat.mul_le_mul_right _ (by omega)
      omega
    have hst := run_storeCells_at P g (n * i.size) e (List.replicate k z) 0 cur w hg (by rw [List.length_replicate, hsize, hcs]; omega) (fun u hu => by rw [(List.mem_replicate.1 hu).2]; exact hz1)
    simp only [Nat.add_zero] at hst
    refine ⟨g, cap, w.setRow g (cur.toList.take (n * i.size) ++ List.replicate k z ++ cur.toList.drop (n * i.size + (List.replicate k z).length)).toArray, ?_, ?_, ?_⟩
    · by_cases hk : k = 0
      · subst hk
        simp only [List.replicate_zero] at hst ⊢
        have hroom' : n ≤ cap := hroom
        simp [Builtin.append_, run_underlying ht, run_underlying htn, sizeOf, typeInfo, hi, asInt, asIntOf, IntKind.wrap_i64, hroom', Addr.add_lit, hst]
      · have hns : ¬ (k * i.size = 0) := by rw [hsize]; omega
        simp [Builtin.append_, run_underlying ht, run_underlying htn, sizeOf, typeInfo, zeroValue, hi, hz, asInt, asIntOf, hw, hneg, hns, hfits, hroom, Addr.add_lit, hzc, hst]
    · refine ⟨by simp [hxl], .inr ⟨g, cap, _, rfl, hbg, setRow_heap w g cur _ e _ hg, hroom, hcm, ?_, ?_⟩⟩
      · simp only [List.size_toArray, List.length_append, List.length_take, List.length_drop, Array.length_toList, List.length_replicate, hsize]
        omega
      · rw [hsize, Nat.mul_one, Nat.mul_one, htake]
        have : n + k = (xs ++ List.replicate k z).length := by simp [hxl]
        rw [this]
        exact List.take_left
    · exact ⟨rfl, rfl, rfl, by simp, fun j _ hj => setRow_other w g j _ (fun e => hj (by simp [e]))⟩
  · have hk : 0 < k := by omega
    have holds : ∀ j u, xs[j]? = some u → w.cell? ((⟨g, 0, none⟩ : Addr).add j) = some u := hown.cells (g := g) rfl
    have hold := run_firstCells_some (P := P) w.drew i.size n ⟨g, 0, none⟩ n cap xs (by rw [hsize]; omega) (fun j u h => (holds j u h))
    have hgs := growslice_fits (need := n + k) (old := cap) (bytes := i.bytes) (by omega) hbytes
    have hr := Go.Lib.run_append_grow_zeros (P := P) w t tn ty e i z kq kn ht htn hi hz (some ⟨g, 0, none⟩) n cap xs hold k hk (by omega) (by omega) (by omega) (by
      have : k * i.bytes ≤ (n + k) * i.bytes := Nat.mul_le_mul_right _ (by omega)
      omega) hgs
    have hge := grownCap_ge w (n + k) cap e
    have hcm' : grownCap w (n + k) cap e ≤ maxLen := grownCap_le_maxLen w (n + k) cap e h63
    refine ⟨_, _, _, hr, ⟨by simp [hxl], .inr ⟨w.heap.size, _, _, rfl, hbase, heap_alloc_new w.drew _, hge, hcm', ?_, ?_⟩⟩, ⟨rfl, rfl, rfl, by simp, fun j hj _ => heap_alloc_old w.drew _ hj⟩⟩
    · simp only [Array.size_append, List.size_toArray, hzn, hxl]
      omega
    · simp only [Array.toList_append, List.append_assoc, hzc]
      rw [← List.append_assoc, Nat.mul_one]
      have : n + k = (xs ++ List.replicate k z).length := by simp [hxl]
      rw [this]
      exact List.take_left
/-- What own leaves: a row of its own. -/
def MkR (n : Nat) (f : Nat → Nat) (w : World) (e : Ending) (w' : World) : Prop :=
  ∃ g cap, e = .returned (.slice (some ⟨g, 0, none⟩) n cap) ∧ w'.ownsRow w.heap.size 32 1 (.slice (some ⟨g, 0, none⟩) n cap) n (pl f n) ∧ Below w.heap.size w w'
theorem mk_row {w w' : World} {n : Nat} {v : Value} {f : Nat → Nat} (h : w'.ownsRow w.heap.size 32 1 v n (pl f n)) (hn : v ≠ .slice none 0 0) (hw : Below w.heap.size w w') : MkR n f w (.returned v) w' := by
  rcases h.2 with ⟨rfl, -⟩ | ⟨g, cap, cur, rfl, -⟩
  · exact absurd rfl hn
  · exact ⟨g, cap, rfl, h, hw⟩
set_option maxRecDepth 100000 in
set_option maxHeartbeats 1000000 in
theorem ownr_some (b o n cap : Nat) (f : Nat → Nat) (hn : (n : Int) ≤ 35184372088832) (w : World) (hP : Pt w b o n f) : Calls Try.prog 13 #[.slice (some ⟨b, o, none⟩) n cap] w (MkR n f w) := by
  have HP := Lib.hid hP; clear hP
  obtain ⟨i0, hi, hz0, hz1, hz2⟩ := info_parts info32
  go_enter Try.func13, Try.ntmps13
  go_wp2_with (at_builtin; refine wpList_append_own _ rfl _ _ 23 rfl w.heap.size 32 i0 (.int .u32 0) 1 4 Try.underlying23 hi hz0 hz1 hz2 rfl (by decide) _ 0 [] rfl (World.ownsRow_made (base := w.heap.size) (e := 32) (size := 1) w #[] 0 (by simp) (by decide) (by simp)) ⟨b, o, none⟩ n cap (pl f n) rfl (by rw [pl_len, Nat.mul_one]) ?c1 ?c2 ?c3 ?c4 ?c5 ?_)
  case c1 => exact news_pl (HP.out.below ((Below.refl _ _).alloc (Nat.le_refl _) _))
  case c2 => exact one_pl f n
  case c3 => unfold maxLen; omega
  case c4 => omega
  case c5 => simp
  intro v' w1 hown' hgrow hnn
  have HF := Lib.hid (mk_row (w := w) hown' hnn (((Below.refl _ _).alloc (Nat.le_refl _) _).grown hgrow (by simp) (fun j hj => by cases hj; exact Nat.le_refl _)))
  clear hown' hgrow hnn
  go_wp2
  go_ret
  exact HF.out
set_option maxRecDepth 100000 in
set_option maxHeartbeats 1000000 in
theorem ownr_void (a : Addr) (cap : Nat) (f : Nat → Nat) (w : World) : Calls Try.prog 13 #[.slice (some a) 0 cap] w (MkR 0 f w) := by
  obtain ⟨i0, hi, hz0, hz1, hz2⟩ := info_parts info32
  go_enter Try.func13, Try.ntmps13
  go_wp2_with (at_builtin; refine wpList_append_own _ rfl _ _ 23 rfl w.heap.size 32 i0 (.int .u32 0) 1 4 Try.underlying23 hi hz0 hz1 hz2 rfl (by decide) _ 0 [] rfl (World.ownsRow_made (base := w.heap.size) (e := 32) (size := 1) w #[] 0 (by simp) (by decide) (by simp)) a 0 cap (pl f 0) rfl (by rw [pl_len, Nat.mul_one]) ?c1 ?c2 ?c3 ?c4 ?c5 ?_)
  case c1 => intro j u hj; simp [pl] at hj
  case c2 => exact one_pl f 0
  case c3 => unfold maxLen; omega
  case c4 => omega
  case c5 => simp
  intro v' w1 hown' hgrow hnn
  have HF := Lib.hid (mk_row (w := w) hown' hnn (((Below.refl _ _).alloc (Nat.le_refl _) _).grown hgrow (by simp) (fun j hj => by cases hj; exact Nat.le_refl _)))
  clear hown' hgrow hnn
  go_wp2
  go_ret
  exact HF.out
set_option maxRecDepth 100000 in
set_option maxHeartbeats 1000000 in
theorem ownr_nil (f : Nat → Nat) (w : World) : Calls Try.prog 13 #[.slice none 0 0] w (MkR 0 f w) := by
  obtain ⟨i0, hi, hz0, hz1, hz2⟩ := info_parts info32
  go_enter Try.func13, Try.ntmps13
  go_wp2_with (at_builtin; refine wpList_append_own_none rfl _ _ 23 rfl w.heap.size 32 i0 1 Try.underlying23 hi _ 0 [] rfl (World.ownsRow_made (base := w.heap.size) (e := 32) (size := 1) w #[] 0 (by simp) (by decide) (by simp)) rfl ?_)
  go_wp2
  go_ret
  exact ⟨_, 0, rfl, World.ownsRow_made (base := w.heap.size) (e := 32) (size := 1) w #[] 0 (by simp) (by decide) (by simp), by go_grown⟩
theorem ownr_any {w : World} {v : Value} {n : Nat} {f : Nat → Nat} (h : ArgN w v n f) (hn : (n : Int) ≤ 35184372088832) : Calls Try.prog 13 #[v] w (MkR n f w) := by
  obtain ⟨a, cap, rfl, hc, hn0, hr⟩ := h
  cases a with
  | none =>
    have h0 := hn0 rfl
    subst h0
    obtain rfl : n = 0 := by omega
    exact ownr_nil f w
  | some q =>
    rcases hr with rfl | ⟨b, o, e, hp⟩
    · exact ownr_void q cap f w
    · injection e with e
      subst e
      exact ownr_some b o n cap f hn w hp
end Go.Proofs.Ytgegkffigjogcaa

/- RIPEMD-160: the padded bytes; what ending comes to. -/
import Derived.Test.YtnnbpofdnhnjlaaDoorRBy
import Derived.Deep.AppendLies
namespace Go.Proofs.YtnnbpofdnhnjlaaDoor
open Go.RowKit

/-- n bytes, behind them 128, noughts, and the number of bits: L bytes in all. -/
def pad (f : Nat → Nat) (n L m j : Nat) : Nat := if j < n then f j else if j = n then 128 else if j + 8 < L then 0 else 8 * m / 2 ^ (8 * (j + 8 - L)) % 256
theorem pad_f {f : Nat → Nat} {n L m j : Nat} (h : j < n) : pad f n L m j = f j := by unfold pad; rw [if_pos h]
theorem pad_n (f : Nat → Nat) (n L m : Nat) : pad f n L m n = 128 := by unfold pad; rw [if_neg (by omega), if_pos rfl]
theorem pad_0 {f : Nat → Nat} {n L m j : Nat} (h : n < j) (h2 : j + 8 < L) : pad f n L m j = 0 := by unfold pad; rw [if_neg (by omega), if_neg (by omega), if_pos h2]
theorem pad_m {f : Nat → Nat} {n L m j k : Nat} (h : n < j) (h2 : j + 8 = L + k) : pad f n L m j = 8 * m / 2 ^ (8 * k) % 256 := by unfold pad; rw [if_neg (by omega), if_neg (by omega), if_neg (by omega), show j + 8 - L = k by omega]
theorem pad_lt {f : Nat → Nat} {n L m : Nat} (hf : ∀ j, j < n → f j < 256) (j : Nat) : pad f n L m j < 256 := by
  unfold pad
  split
  · exact hf _ (by assumption)
  · split
    · omega
    · split
      · omega
      · exact Nat.mod_lt _ (by omega)
theorem own_below {base : Nat} {w w2 w3 : World} {v : Value} {n : Nat} {xs : List Value} {o : Obj} (hown : w2.ownsRow base 5 1 v n xs) (hb : Below base w w2) (hbs : base ≤ w2.heap.size) (hg : (w2.alloc o).grownBy w3 v.ownBlock) : Below base w w3 :=
  (hb.alloc hbs _).grown hg (by simp; omega) (fun j hj => (hown.lt j hj).1)
theorem rem_64 {L c : Nat} (hL : L % 64 = 0) (h1 : c + 8 ≤ L) (h2 : L < c + 72) : c % 64 = 56 ↔ c + 8 = L := by omega
theorem wrap_8 {e s b : Nat} (h : e / 2 ^ s % 256 = b) : IntKind.u8.wrap ((e : Int) / 2 ^ s) = (b : Int) := by
  rw [IntKind.wrap_u8]
  have h2 : ((e : Int) / 2 ^ s) = ((e / 2 ^ s : Nat) : Int) := by simp
  rw [h2]
  omega
set_option maxRecDepth 100000 in
set_option maxHeartbeats 2000000 in
-- WHAT ending COMES TO.
theorem ending_any {n m L : Nat} {f : Nat → Nat} {v : Value} {w : World} (hn : n < 64) (hm : m < 1125899906842624) (hL : L % 64 = 0) (hL1 : n + 9 ≤ L) (hL2 : L < n + 73) (hP : ArgB w v n f) : Calls Tryd.prog 57 #[v, .int .i64 m] w fun e w' => ∃ v', e = .returned v' ∧ Own8 w.heap.size (pad f n L m) L v' w' ∧ Below w.heap.size w w' := by
  have CL := Lib.hid (clone_any (n := n) (by omega) hP); clear hP
  obtain ⟨i0, hi, hz0, hz1, hz2⟩ := info_partsB info8
  go_enter Tryd.func57, Tryd.ntmps57
  go_wp2_with fail
  refine CL.out.mono ?_
  rintro e w2 ⟨v2, rfl, hown, hb⟩
  obtain ⟨g, q, rfl, -⟩ := own_rdb hown
  have HO := Lib.hid (And.intro hown hb)
  have hbs : w.heap.size ≤ w2.heap.size := hb.size
  clear CL hown hb
  go_wp2_with (at_builtin; refine wpList_append_lies _ rfl _ _ 22 rfl w.heap.size 5 i0 (.int .u8 0) 1 1 Tryd.underlying22 hi hz0 hz1 hz2 rfl (by decide) _ (n) (p8 f n) rfl (World.ownsRow.alloc HO.out.1 _) ⟨w2.heap.size, 0, none⟩ 1 1 [.int .u8 128] rfl rfl (cell_one_new _ _ _) (by intro u hu; simp at hu; subst hu; rfl) (by omega) (by unfold maxLen; omega) (by omega) (by simp; omega) (w2.heap.size + 1) (by simp) ?_; intro g2 c2 w3 hown3 hgrow hat hlt3; (have hb3 := own_below HO.out.1 HO.out.2 hbs hgrow); (rw [p8_snoc f (pad f n L m) n 128 (fun j hj => (pad_f hj).symm) (by rw [pad_n]; rfl)] at hown3); (have HQ := Lib.hid (And.intro hown3 hb3)); clear hgrow hat hlt3 hown3 hb3 HO)
  go_loopw [5] (fun v wr => ∃ c : Nat, n + 1 ≤ c ∧ c + 8 ≤ L ∧ (∃ g q, v = .slice (some ⟨g, 0, none⟩) c q) ∧ Hid (Own8 w.heap.size (pad f n L m) c v wr ∧ Below w.heap.size w wr)) (fun v _ => match v with | .slice _ c _ => L - c | _ => 0)
  case atStart => exact ⟨n + 1, by omega, by omega, ⟨_, _, rfl⟩, HQ⟩
  case round =>
    obtain ⟨c, hc1, hc2, ⟨g, q, rfl⟩, H⟩ := hrel
    have hbs : w.heap.size ≤ wr.heap.size := H.out.2.size
    have hc0 : (0 : Int) ≤ c := by omega
    clear HQ
    by_cases h : c + 8 = L
    · have ht : ((c : Int) % 64 != 56) = false := by simp; omega
      go_wp2_with fail
      go_loopw [5, 18] (fun v i wr => ∃ k : Nat, k ≤ 8 ∧ i = .int .i64 k ∧ (∃ g q, v = .slice (some ⟨g, 0, none⟩) (c + k) q) ∧ Hid (Own8 w.heap.size (pad f n L m) (c + k) v wr ∧ Below w.heap.size w wr)) (fun _ i _ => 8 - (intOf i).toNat)
      case atStart => exact ⟨0, by omega, rfl, ⟨_, _, rfl⟩, H⟩
      case round =>
        obtain ⟨k, hk, rfl, ⟨g, q, rfl⟩, H2⟩ := hrel
        clear H
        have hbs : w.heap.size ≤ wr.heap.size := H2.out.2.size
        have hk0 : (0 : Int) ≤ k := by omega
        by_cases hlt : k < 8
        · have hlt' : (k : Int) < 8 := by omega
          obtain ⟨s, hs⟩ : ∃ s : Nat, 8 * (k : Int) = (s : Int) := ⟨8 * k, by omega⟩
          obtain ⟨e, he⟩ : ∃ e : Nat, 8 * (m : Int) = (e : Int) := ⟨8 * m, by omega⟩
          have hs0 : (0 : Int) ≤ s := by omega
          have hs1 : (s : Int) < 64 := by omega
          have hw : IntKind.u64.wrap (m : Int) = (m : Int) := by rw [IntKind.wrap_u64]; omega
          have hwe : IntKind.u64.wrap (e : Int) = (e : Int) := by rw [IntKind.wrap_u64]; omega
          have hws : IntKind.i64.wrap (s : Int) = (s : Int) := by rw [IntKind.wrap_i64]; omega
          obtain ⟨b, hb⟩ : ∃ b, e / 2 ^ s % 256 = b := ⟨_, rfl⟩
          have hwb := wrap_8 hb
          have hpd : pad f n L m (c + k) = b := by
            rw [pad_m (k := k) (by omega) (by omega), ← hb, show 8 * m = e by omega, show 8 * k = s by omega]
          have HB := Lib.hid hpd
          clear hb hpd
          go_wp2_with (at_builtin; refine wpList_append_lies _ rfl _ _ 22 rfl w.heap.size 5 i0 (.int .u8 0) 1 1 Tryd.underlying22 hi hz0 hz1 hz2 rfl (by decide) _ (c + k) (p8 (pad f n L m) (c + k)) rfl (World.ownsRow.alloc H2.out.1 _) ⟨wr.heap.size, 0, none⟩ 1 1 [.int .u8 (b : Int)] rfl rfl (cell_one_new _ _ _) (by intro u hu; simp at hu; subst hu; rfl) (by omega) (by unfold maxLen; omega) (by omega) (by simp; omega) (wr.heap.size + 1) (by simp) ?_; intro g2 c2 w3 hown3 hgrow hat hlt3; (have hb3 := own_below H2.out.1 H2.out.2 hbs hgrow); (rw [p8_snoc (pad f n L m) (pad f n L m) (c + k) (b : Int) (fun j hj => rfl) (by rw [HB.out])] at hown3); (have HQ := Lib.hid (And.intro hown3 hb3)); clear hgrow hat hlt3 hown3 hb3 H2)
          go_roundw
          case rel => exact ⟨k + 1, by omega, by go_num, ⟨_, _, rfl⟩, HQ⟩
          case measure => simp [intOf]; omega
        · obtain rfl : k = 8 := by omega
          go_wp2
          go_ret
          subst h
          exact ⟨_, rfl, H2.out⟩
    · have ht : ((c : Int) % 64 != 56) = true := by simp; omega
      go_wp2_with (at_builtin; refine wpList_append_lies _ rfl _ _ 22 rfl w.heap.size 5 i0 (.int .u8 0) 1 1 Tryd.underlying22 hi hz0 hz1 hz2 rfl (by decide) _ (c) (p8 (pad f n L m) c) rfl (World.ownsRow.alloc H.out.1 _) ⟨wr.heap.size, 0, none⟩ 1 1 [.int .u8 0] rfl rfl (cell_one_new _ _ _) (by intro u hu; simp at hu; subst hu; rfl) (by omega) (by unfold maxLen; omega) (by omega) (by simp; omega) (wr.heap.size + 1) (by simp) ?_; intro g2 c2 w3 hown3 hgrow hat hlt3; (have hb3 := own_below H.out.1 H.out.2 hbs hgrow); (rw [p8_snoc (pad f n L m) (pad f n L m) c 0 (fun j hj => rfl) (by rw [pad_0 (by omega) (by omega)]; rfl)] at hown3); (have HQ := Lib.hid (And.intro hown3 hb3)); clear hgrow hat hlt3 hown3 hb3 H)
      go_roundw
      case rel => exact ⟨c + 1, by omega, by omega, ⟨_, _, rfl⟩, HQ⟩
      case measure => simp; omega
end Go.Proofs.YtnnbpofdnhnjlaaDoor

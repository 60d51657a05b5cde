/- The reference's Of: digits of 16 bits as a number. -/
import Derived.Test.YtgegkffigjogcaaNDigits
namespace Go.Proofs.Ytgegkffigjogcaa
open Go.RowKit

/-- The parts of digits. -/
def ofd (d : Nat → Nat) (n k : Nat) : Nat := pad d n (2 * k) + 65536 * pad d n (2 * k + 1)
theorem ofd_lt {d : Nat → Nat} {n : Nat} (h : ∀ j, j < n → d j < 65536) (k : Nat) : ofd d n k < 4294967296 := by
  have hp : ∀ j, pad d n j < 65536 := fun j => by
    unfold pad; split
    · exact h j (by assumption)
    · omega
  unfold ofd
  have := hp (2 * k)
  have := hp (2 * k + 1)
  omega
theorem ofd_vb (d : Nat → Nat) (n : Nat) : ∀ k, vb 4294967296 (ofd d n) k = vd (pad d n) (2 * k)
  | 0 => rfl
  | k + 1 => by
    rw [show 2 * (k + 1) = 2 * k + 1 + 1 by omega]
    simp only [vd, vb]
    rw [ofd_vb d n k, Nat.pow_succ, Nat.pow_mul, show (65536 : Nat) ^ 2 = 4294967296 by rfl, Nat.add_assoc]
    congr 1
    unfold ofd
    rw [Nat.mul_add, Nat.mul_assoc]
theorem pl_snoc (f : Nat → Nat) (k : Nat) : pl f k ++ [.int .u32 ((f k : Nat) : Int)] = pl f (k + 1) := by
  unfold pl
  rw [List.range_succ, List.map_append]
  rfl
theorem or_u32 (a b : Nat) (ha : a < 4294967296) (hb : b < 4294967296) : bits .or .u32 (a : Int) (b : Int) = ((a ||| b : Nat) : Int) := by
  have hx : a ||| b < 2 ^ 32 := Nat.or_lt_two_pow (by omega) (by omega)
  have h1 : (BitVec.ofInt 32 (a : Int)).toNat = a := by
    rw [BitVec.ofInt_natCast, BitVec.toNat_ofNat]; exact Nat.mod_eq_of_lt (by omega)
  have h2 : (BitVec.ofInt 32 (b : Int)).toNat = b := by
    rw [BitVec.ofInt_natCast, BitVec.toNat_ofNat]; exact Nat.mod_eq_of_lt (by omega)
  show IntKind.u32.wrap ((BitVec.ofInt 32 (a : Int) ||| BitVec.ofInt 32 (b : Int)).toNat : Int) = _
  rw [BitVec.toNat_or, h1, h2, IntKind.wrap_u32]
  omega
theorem or_high (lo hi : Nat) (h : lo < 65536) (h2 : hi < 65536) : bits .or .u32 (lo : Int) ((hi : Int) * 65536) = ((lo + 65536 * hi : Nat) : Int) := by
  have := or_u32 lo (hi * 65536) (by omega) (by omega)
  rw [Int.natCast_mul] at this
  rw [show ((hi : Int) * 65536) = (hi : Int) * ((65536 : Nat) : Int) by rfl, this, Nat.or_comm, show hi * 65536 = 2 ^ 16 * hi by omega, ← Nat.two_pow_add_eq_or_of_lt (by omega)]
  congr 1
  omega
theorem of_next {w wr w1 : World} {u X : Value} {k y g cap : Nat} {f : Nat → Nat} (h1 : wr.ownsRow w.heap.size 32 1 u k (pl f k)) (h2 : Below w.heap.size w wr) (hy : y = f k)
    (hown' : w1.ownsRow w.heap.size 32 1 (.slice (some ⟨g, 0, none⟩) (k + 1) cap) (k + 1) (pl f k ++ [.int .u32 (y : Int)])) (hgrow : (wr.alloc (.cells #[X] 32)).grownBy w1 u.ownBlock) :
    w1.ownsRow w.heap.size 32 1 (.slice (some ⟨g, 0, none⟩) (k + 1) cap) (k + 1) (pl f (k + 1)) ∧ Below w.heap.size w w1 ∧ ∃ g' c, Value.slice (some ⟨g, 0, none⟩) (k + 1) cap = .slice (some ⟨g', 0, none⟩) (k + 1) c := by
  rw [hy, pl_snoc] at hown'
  exact ⟨hown', (h2.alloc h2.size _).grown hgrow (by have := h2.size; simp; omega) (fun j hj => (h1.lt j hj).1), g, cap, rfl⟩
theorem rp_of' {w : World} {base g n cap : Nat} {f : Nat → Nat} (h : w.ownsRow base 32 1 (.slice (some ⟨g, 0, none⟩) n cap) n (pl f n)) (hn : (n : Int) ≤ 35184372088832) (hf : ∀ j, j < n → f j < 4294967296) : AN (vb 4294967296 f n) (.slice (some ⟨g, 0, none⟩) n cap) w := by
  obtain ⟨a, n', cap', f', e, hv, he⟩ := row_nn h hn hf
  injection e with e1 e2 e3
  subst e1 e2 e3
  exact ⟨n, f', ⟨_, cap, rfl, hv.cap, (fun h => by cases h), hv.rd⟩, hn, hv.lt, he⟩
set_option maxRecDepth 100000 in
set_option maxHeartbeats 1000000 in
theorem of_walk (b n cap : Nat) (d : Nat → Nat) (hn : (n : Int) ≤ 100000) (hd : ∀ j, j < n → d j < 65536) (w : World) (hP : Dg w b n d) :
    Calls Try.prog 63 #[.slice (some ⟨b, 0, none⟩) n cap] w fun e w' => ∃ u, e = .returned u ∧ RP (vd d n) u w' ∧ Below w.heap.size w w' := by
  have HP := Lib.hid hP; clear hP
  have HD := Lib.hid hd; clear hd
  have HPL := Lib.hid (fun V v w' (h : AN V v w') => plain_an h)
  obtain ⟨i0, hi, hz0, hz1, hz2⟩ := info_parts info32
  have hn0 : (0 : Int) ≤ n := by omega
  go_enter Try.func63, Try.ntmps63
  go_wp2
  go_loopw [3, 4] (fun v i wr => ∃ k j : Nat, k ≤ n + 1 ∧ j = 2 * k ∧ j ≤ n + 1 ∧ i = .int .i64 j ∧ Hid (wr.ownsRow w.heap.size 32 1 v k (pl (ofd d n) k) ∧ Below w.heap.size w wr ∧ ∃ g c, v = .slice (some ⟨g, 0, none⟩) k c))
    (fun _ i _ => n + 1 - (intOf i).toNat)
  case atStart =>
    refine ⟨0, 0, by omega, rfl, by omega, rfl, Lib.hid ⟨?_, by go_grown, _, _, rfl⟩⟩
    exact World.ownsRow_made (base := w.heap.size) (e := 32) (size := 1) w #[] 0 (by simp) (by decide) (by simp)
  case round =>
    obtain ⟨k, j, hk, hjk, hj, rfl, H⟩ := hrel
    have HJ := Lib.hid hjk; clear hjk
    have hj0 : (0 : Int) ≤ j := by omega
    have hjb : (j : Int) ≤ 100002 := by omega
    by_cases hlt : j < n
    · have hlt' : (j : Int) < n := by omega
      have ca : wr.cell? ⟨b, j, none⟩ = some (.int .u64 (d j : Nat)) := (H.out.2.1.cell (p := ⟨b, j, none⟩) HP.out.1).trans (HP.out.2 j hlt)
      have h1 := HD.out j hlt
      have hw1 : IntKind.u32.wrap ((d j : Nat) : Int) = ((d j : Nat) : Int) := by rw [IntKind.wrap_u32]; omega
      have hbas : w.heap.size ≤ wr.heap.size := H.out.2.1.size
      have HO := Lib.hid H.out.1
      have HB := Lib.hid H.out.2.1
      by_cases h2 : j + 1 < n
      · have h2' : (j : Int) + 1 < n := by omega
        obtain ⟨q, hq⟩ : ∃ q : Nat, (j : Int) + 1 = (q : Int) := ⟨j + 1, by omega⟩
        have hqj : q = j + 1 := by omega
        have hq0 : (0 : Int) ≤ q := by omega
        have hq1 : (q : Int) < n := by omega
        have cb : wr.cell? ⟨b, q, none⟩ = some (.int .u64 (d q : Nat)) := (H.out.2.1.cell (p := ⟨b, q, none⟩) HP.out.1).trans (HP.out.2 q (by omega))
        have h3 := HD.out q (by omega)
        have hw2 : IntKind.u32.wrap ((d q : Nat) : Int) = ((d q : Nat) : Int) := by rw [IntKind.wrap_u32]; omega
        have hsh : IntKind.u32.wrap (((d q : Nat) : Int) * 65536) = ((d q * 65536 : Nat) : Int) := by rw [IntKind.wrap_u32]; omega
        have hor := or_high (d j) (d q) h1 h3
        have ho : d j + 65536 * d q = ofd d n k := by
          unfold ofd pad
          rw [← HJ.out, if_pos hlt, if_pos h2, hqj]
        rw [ho] at hor
        have HOR := Lib.hid hor
        clear h1 h3 ho hqj hor H
        go_wp2_with (at_builtin; refine wpList_append_lies _ rfl _ _ 23 rfl w.heap.size 32 i0 (.int .u32 0) 1 4 Try.underlying23 hi hz0 hz1 hz2 rfl (by decide) u3 k (pl (ofd d n) k) rfl (HO.out.alloc _) ⟨wr.heap.size, 0, none⟩ 1 1 [.int .u32 (bits .or .u32 ((d j : Nat) : Int) (((d q : Nat) : Int) * 65536))] rfl rfl (cell_one_new _ _ _) (by intro u hu; simp at hu; subst hu; rfl) (by omega) (by unfold maxLen; omega) (by omega) (by simp; omega) (wr.heap.size + 1) (by simp) ?_; intro g cap' w1 hown1 hgrow hat hlt1)
        rw [HOR.out] at hown1
        have HN := Lib.hid (of_next HO.out HB.out rfl hown1 hgrow)
        clear hown1 hgrow hat hlt1 HO HB HOR
        go_wp2
        go_roundw
        case rel => exact ⟨k + 1, j + 2, by have := HJ.out; omega, by have := HJ.out; omega, by omega, by go_num, HN⟩
        case measure => simp [intOf]; omega
      · have h2' : ¬ (j : Int) + 1 < n := by omega
        have ho : ((d j : Nat) : Int) = ((ofd d n k : Nat) : Int) := by
          unfold ofd pad
          rw [← HJ.out, if_pos hlt, if_neg h2]
          rfl
        have HOR := Lib.hid ho
        clear h1 ho H
        go_wp2_with (at_builtin; refine wpList_append_lies _ rfl _ _ 23 rfl w.heap.size 32 i0 (.int .u32 0) 1 4 Try.underlying23 hi hz0 hz1 hz2 rfl (by decide) u3 k (pl (ofd d n) k) rfl (HO.out.alloc _) ⟨wr.heap.size, 0, none⟩ 1 1 [.int .u32 (((d j : Nat) : Int))] rfl rfl (cell_one_new _ _ _) (by intro u hu; simp at hu; subst hu; rfl) (by omega) (by unfold maxLen; omega) (by omega) (by simp; omega) (wr.heap.size + 1) (by simp) ?_; intro g cap' w1 hown1 hgrow hat hlt1)
        rw [HOR.out] at hown1
        have HN := Lib.hid (of_next HO.out HB.out rfl hown1 hgrow)
        clear hown1 hgrow hat hlt1 HO HB HOR
        go_wp2
        go_roundw
        case rel => exact ⟨k + 1, j + 2, by have := HJ.out; omega, by have := HJ.out; omega, by omega, by go_num, HN⟩
        case measure => simp [intOf]; omega
    · have hlt' : ¬ (j : Int) < n := by omega
      obtain ⟨h1, h2, g, c, rfl⟩ := H.out
      have hk2 : n ≤ 2 * k := by have := HJ.out; omega
      have hr := ((rp_of' h1 (by omega) (fun i _ => ofd_lt HD.out i)) : AN _ _ wr)
      rw [ofd_vb, vd_pad _ _ _ hk2] at hr
      have HA := Lib.hid hr
      have HB := Lib.hid h2
      clear hr h1 h2 hk2 H
      go_wp2_with fail
      refine (HPL.out _ _ _ HA.out).mono ?_
      rintro e w2 ⟨u, rfl, hu, hb⟩
      have HF := Lib.hid (And.intro hu (HB.out.trans (hb.mono HB.out.size)))
      clear hu hb
      go_wp2
      go_ret
      exact ⟨u, rfl, HF.out⟩
-- WHAT THE REFERENCE's Of COMES TO.
theorem of_dd {N V : Nat} {v : Value} {w : World} (hN : N ≤ 100000) (h : DD N V v w) : Calls Try.prog 63 #[v] w fun e w' => ∃ u, e = .returned u ∧ RP V u w' ∧ Below w.heap.size w w' := by
  obtain ⟨b, n, cap, d, h1, rfl, h2, h3, rfl⟩ := h
  exact of_walk b n cap d (by omega) h3 w h2
end Go.Proofs.Ytgegkffigjogcaa

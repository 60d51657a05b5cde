/- What bailiwickref01.Product comes to, called with any two slices of digits. (With it, merged: Muls · Parts · Take · FArr · FMul · FRow · FMnt · Eq · Small · Steps · Cells · Bytes · Dg · Sum · ShiftNum · Shl · Word · Prod.) -/
import Derived.Test.YtfgefifplmhopaaM1
import Derived.Deep.LoopGhost
import Derived.Lib.Hide
import Derived.Laws.Tables
import Derived.Laws.CopyOwn
import Derived.Laws.OwnMore
import Derived.Deep.RegionWith
import Derived.Laws.Bits64b
import Derived.Laws.Rows
import Derived.Deep.QuietTactic
import Derived.BigQuiet
import Derived.Test.YtfgefifplmhopaaProg
import Derived.WalkKit
import Derived.WalkSpells
import Derived.WalkLawsBesides
import Derived.LoopN
import Derived.Handy
import Derived.Outline
import Derived.RegionTactic
import Derived.BigRegion
import Derived.Deep.AppendLies
import Derived.StillTailTactics
import Derived.WalkSmall
import Derived.OwnWalk
namespace Go.Proofs.Ytfgefifplmhopaa
open Go.RowKit

set_option maxHeartbeats 400000 in
theorem of_walk (n : Nat) (w : World) :
    Calls Try.prog 30 #[.int .u64 n] w fun e w' => e = .returned (.agg #[.int .u64 n, .int .u64 0, .int .u64 0, .int .u64 0]) ∧ Below w.heap.size w w' := by
  go_enter Try.func30, Try.ntmps30
  go_wp2
  go_returns
  exact ⟨rfl, by go_grown⟩

/-- The array that a slice of four parts lies over. -/
theorem arrayAt4 (b o c : Nat) (w : World) : (Instr.arrayAt 24 (.slice (some ⟨b, o, none⟩) 4 c)).run Try.prog w = .ok (.pointer (some ⟨b, o, none⟩)) w := by kernel_rfl

-- WHAT product COMES TO.
set_option maxHeartbeats 4000000 in
theorem product_any (x y : Nat) (w : World) :
    Calls Try.prog 74 #[wv x, wv y] w fun e w' =>
      e = .returned (dv ((x % 115792089237316195423570985008687907853269984665640564039457584007913129639936) * (y % 115792089237316195423570985008687907853269984665640564039457584007913129639936))) ∧ Below w.heap.size w w' := by
  obtain ⟨a0, a1, a2, a3, u0, u1, u2, u3, ea, na⟩ := wv_parts x
  obtain ⟨b0, b1, b2, b3, v0, v1, v2, v3, eb, nb⟩ := wv_parts y
  obtain ⟨p00, c00, lp00, lc00, e00, h00⟩ := mulAdd_ex a0 b0 0 0 u0 v0 (by omega) (by omega)
  obtain ⟨p01, c01, lp01, lc01, e01, h01⟩ := mulAdd_ex a0 b1 0 c00 u0 v1 (by omega) lc00
  obtain ⟨p02, c02, lp02, lc02, e02, h02⟩ := mulAdd_ex a0 b2 0 c01 u0 v2 (by omega) lc01
  obtain ⟨p03, c03, lp03, lc03, e03, h03⟩ := mulAdd_ex a0 b3 0 c02 u0 v3 (by omega) lc02
  obtain ⟨p10, c10, lp10, lc10, e10, h10⟩ := mulAdd_ex a1 b0 p01 0 u1 v0 lp01 (by omega)
  obtain ⟨p11, c11, lp11, lc11, e11, h11⟩ := mulAdd_ex a1 b1 p02 c10 u1 v1 lp02 lc10
  obtain ⟨p12, c12, lp12, lc12, e12, h12⟩ := mulAdd_ex a1 b2 p03 c11 u1 v2 lp03 lc11
  obtain ⟨p13, c13, lp13, lc13, e13, h13⟩ := mulAdd_ex a1 b3 c03 c12 u1 v3 lc03 lc12
  obtain ⟨p20, c20, lp20, lc20, e20, h20⟩ := mulAdd_ex a2 b0 p11 0 u2 v0 lp11 (by omega)
  obtain ⟨p21, c21, lp21, lc21, e21, h21⟩ := mulAdd_ex a2 b1 p12 c20 u2 v1 lp12 lc20
  obtain ⟨p22, c22, lp22, lc22, e22, h22⟩ := mulAdd_ex a2 b2 p13 c21 u2 v2 lp13 lc21
  obtain ⟨p23, c23, lp23, lc23, e23, h23⟩ := mulAdd_ex a2 b3 c13 c22 u2 v3 lc13 lc22
  obtain ⟨p30, c30, lp30, lc30, e30, h30⟩ := mulAdd_ex a3 b0 p21 0 u3 v0 lp21 (by omega)
  obtain ⟨p31, c31, lp31, lc31, e31, h31⟩ := mulAdd_ex a3 b1 p22 c30 u3 v1 lp22 lc30
  obtain ⟨p32, c32, lp32, lc32, e32, h32⟩ := mulAdd_ex a3 b2 p23 c31 u3 v2 lp23 lc31
  obtain ⟨p33, c33, lp33, lc33, e33, h33⟩ := mulAdd_ex a3 b3 c23 c32 u3 v3 lc23 lc32
  have hs : n8 p00 p10 p20 p30 p31 p32 p33 c33 = (x % 115792089237316195423570985008687907853269984665640564039457584007913129639936) * (y % 115792089237316195423570985008687907853269984665640564039457584007913129639936) := by
    rw [← na, ← nb, n4_mul]
    clear ea eb na nb h00 h01 h02 h03 h10 h11 h12 h13 h20 h21 h22 h23 h30 h31 h32 h33
    generalize a0 * b0 = m00 at *
    generalize a0 * b1 = m01 at *
    generalize a0 * b2 = m02 at *
    generalize a0 * b3 = m03 at *
    generalize a1 * b0 = m10 at *
    generalize a1 * b1 = m11 at *
    generalize a1 * b2 = m12 at *
    generalize a1 * b3 = m13 at *
    generalize a2 * b0 = m20 at *
    generalize a2 * b1 = m21 at *
    generalize a2 * b2 = m22 at *
    generalize a2 * b3 = m23 at *
    generalize a3 * b0 = m30 at *
    generalize a3 * b1 = m31 at *
    generalize a3 * b2 = m32 at *
    generalize a3 * b3 = m33 at *
    clear u0 u1 u2 u3 v0 v1 v2 v3 lp00 lc00 lp01 lc01 lp02 lc02 lp03 lc03 lp10 lc10 lp11 lc11 lp12 lc12 lp13 lc13 lp20 lc20 lp21 lc21 lp22 lc22 lp23 lc23 lp30 lc30 lp31 lc31 lp32 lc32 lp33 lc33
    unfold n8
    omega
  rw [ea, eb, ← hs, dv_n8 lp00 lp10 lp20 lp30 lp31 lp32 lp33 lc33]
  exact product_walk a0 a1 a2 a3 b0 b1 b2 b3 p00 c00 p01 c01 p02 c02 p03 c03 p10 c10 p11 c11 p12 c12 p13 c13 p20 c20 p21 c21 p22 c22 p23 c23 p30 c30 p31 c31 p32 c32 p33 c33 w h00 h01 h02 h03 h10 h11 h12 h13 h20 h21 h22 h23 h30 h31 h32 h33

theorem wv_of_n8 {a0 a1 a2 a3 a4 a5 a6 a7 : Nat} (h0 : a0 < 18446744073709551616) (h1 : a1 < 18446744073709551616) (h2 : a2 < 18446744073709551616) (h3 : a3 < 18446744073709551616) :
    wv (n8 a0 a1 a2 a3 a4 a5 a6 a7) = .agg #[.int .u64 a0, .int .u64 a1, .int .u64 a2, .int .u64 a3] := by
  rw [← wv_n4 h0 h1 h2 h3]
  exact wv_congr (by unfold n8 n4; omega)

end Go.Proofs.Ytfgefifplmhopaa
namespace Go.Proofs.Ytfgefifplmhopaa
open Go.RowKit

/-- How many of the first n parts there are without the noughts behind. -/
def np (xs : Nat → Nat) : Nat → Nat
  | 0 => 0
  | n + 1 => if xs n = 0 then np xs n else n + 1

set_option maxRecDepth 100000 in
set_option maxHeartbeats 400000 in
theorem parts_any (b o L cap : Nat) (xs : Nat → Nat) (hL : (L : Int) ≤ 1000000) (w : World)
    (hc : ∀ j, j < L → w.cell? ⟨b, o + j, none⟩ = some (.int .u64 (xs j))) :
    Calls Try.prog 76 #[.slice (some ⟨b, o, none⟩) L cap] w fun e w' => e = .returned (.int .i64 (np xs L : Nat)) ∧ w = w' := by
  have HC := Lib.hid hc; clear hc
  go_enter Try.func76, Try.ntmps76
  go_wp2
  go_loop [3] (fun n => ∃ k : Nat, k ≤ L ∧ n = .int .i64 k ∧ Hid (np xs k = np xs L)) (fun n => (intOf n).toNat)
  case atStart => exact ⟨L, Nat.le_refl _, rfl, Lib.hid rfl⟩
  case round =>
    obtain ⟨k, hk, rfl, hn⟩ := hrel
    have hk' : (k : Int) ≤ 1000000 := by omega
    rcases k with _ | j
    · go_wp2
      go_ret
      exact ⟨by rw [← hn.out]; rfl, rfl⟩
    · have hj : (0 : Int) ≤ j := by omega
      have hj' : (j : Int) ≤ 1000000 := by omega
      have c := HC.out j (by omega)
      by_cases hx : xs j = 0
      · have hr : np xs j = np xs L := by rw [← hn.out]; simp [np, hx]
        have HR := Lib.hid hr
        clear hr
        rw [hx] at c
        clear hn
        go_wp2
        go_round
        case rel => exact ⟨j, by omega, rfl, HR⟩
        case measure => simp [intOf]
      · have hr : j + 1 = np xs L := by rw [← hn.out]; simp [np, hx]
        have HR := Lib.hid hr
        clear hr hn
        have hx' : ((xs j : Int) == 0) = false := by simp [hx]
        go_wp2
        go_ret
        exact ⟨by rw [← HR.out]; simp, rfl⟩
end Go.Proofs.Ytfgefifplmhopaa
namespace Go.Proofs.Ytfgefifplmhopaa
open Go.RowKit

/-- The number of the first n parts. -/
def val (f : Nat → Nat) : Nat → Nat
  | 0 => 0
  | n + 1 => val f n + 18446744073709551616 ^ n * f n

theorem val_congr {f g : Nat → Nat} {n : Nat} (h : ∀ j, j < n → f j = g j) : val f n = val g n := by
  induction n with
  | zero => rfl
  | succ n ih => simp only [val]; rw [ih (fun j hj => h j (by omega)), h n (by omega)]

/-- Nothing has turned but cells of block S. -/
structure But (S : Nat) (w w' : World) : Prop where
  os : w'.os = w.os
  tape : w'.tape = w.tape
  output : w'.output = w.output
  size : w'.heap.size = w.heap.size
  block : ∀ k, k ≠ S → w'.heap[k]? = w.heap[k]?
  frozen : ∀ j, w'.frozen? ⟨S, j, none⟩ = w.frozen? ⟨S, j, none⟩

theorem But.refl (S : Nat) (w : World) : But S w w := ⟨rfl, rfl, rfl, rfl, fun _ _ => rfl, fun _ => rfl⟩
theorem But.set {S : Nat} {w w' : World} (h : But S w w') (j : Nat) (u : Value) : But S w (w'.setCell ⟨S, j, none⟩ u) :=
  ⟨h.os, h.tape, h.output, by simp [h.size], fun k hk => by rw [Below.heap_setCell _ _ _ _ hk]; exact h.block k hk, fun i => by rw [World.frozen?_setCell]; exact h.frozen i⟩
theorem But.trans {S : Nat} {w w' w'' : World} (h : But S w w') (h' : But S w' w'') : But S w w'' :=
  ⟨h'.os.trans h.os, h'.tape.trans h.tape, h'.output.trans h.output, h'.size.trans h.size, fun k hk => (h'.block k hk).trans (h.block k hk), fun j => (h'.frozen j).trans (h.frozen j)⟩
theorem But.cell {S : Nat} {w w' : World} (h : But S w w') {p : Addr} (hp : p.block ≠ S) : w'.cell? p = w.cell? p := World.cell?_of_block (w := w) (h.block p.block hp)
theorem But.below {S B : Nat} {w0 w w' : World} (h0 : Below B w0 w) (h : But S w w') (hB : B ≤ S) : Below B w0 w' :=
  h0.trans ⟨h.os, h.tape, h.output, by rw [h.size]; exact Nat.le_refl _, fun k hk => h.block k (by omega)⟩

/-- Cells o .. of block S hold the first k parts of ns; the others what they held. -/
def Holds (S o k : Nat) (ns : Nat → Nat) (w w' : World) : Prop := But S w w' ∧ ∀ j, w'.cell? ⟨S, j, none⟩ = if o ≤ j ∧ j < o + k then some (.int .u64 (ns (j - o) : Nat)) else w.cell? ⟨S, j, none⟩

theorem Holds.start (S o : Nat) (ns : Nat → Nat) (w : World) : Holds S o 0 ns w w := ⟨But.refl S w, fun j => by rw [if_neg (by omega)]⟩
theorem Holds.next {S o k : Nat} {ns : Nat → Nat} {w w' : World} (h : Holds S o k ns w w') (s : Nat) (hs : (w.cell? ⟨S, o + k, none⟩).isSome = true) :
    Holds S o (k + 1) (fun j => if j = k then s else ns j) w (w'.setCell ⟨S, o + k, none⟩ (.int .u64 s)) := by
  refine ⟨h.1.set _ _, fun j => ?_⟩
  by_cases hj : j = o + k
  · subst hj
    have h1 : (w'.cell? ⟨S, o + k, none⟩).isSome = true := by rw [h.2, if_neg (by omega)]; exact hs
    obtain ⟨v, hv⟩ := Option.isSome_iff_exists.1 h1
    rw [if_pos (by omega), World.cell?_setCell_same _ _ _ hv]
    simp
  · rw [World.cell?_setCell_other _ _ _ _ (by intro e; apply hj; injection e with _ e2; exact e2.symm)]
    rw [h.2 j]
    by_cases h1 : o ≤ j ∧ j < o + k
    · rw [if_pos h1, if_pos (by omega)]
      simp only []
      rw [if_neg (by omega)]
    · rw [if_neg h1, if_neg (by omega)]

/-- What word.takeTimes leaves: the rest's cells, and what is owed. -/
def TakePost (S o n part : Nat) (r d : Nat → Nat) (w : World) (e : Ending) (w' : World) : Prop :=
  ∃ (ns : Nat → Nat) (debt : Nat), e = .returned (.int .u64 debt) ∧ debt ≤ 1 ∧ (∀ j, j < n + 1 → ns j < 18446744073709551616) ∧
    val ns (n + 1) + part * val d n = val r (n + 1) + 18446744073709551616 ^ (n + 1) * debt ∧ Holds S o (n + 1) ns w w'

/-- One round's reckoning. -/
theorem take_step {P x rk t s c c' b b' m dk N R V : Nat} (h : N + V = R + P * (c + b)) (h1 : t + 18446744073709551616 * c' = m + c) (h2 : s + t + b = rk + 18446744073709551616 * b') (hm : m = dk * x) :
    N + P * s + (V + P * (dk * x)) = R + P * rk + P * 18446744073709551616 * (c' + b') := by
  subst hm
  have e1 : P * t + P * (18446744073709551616 * c') = P * (dk * x) + P * c := by rw [← Nat.mul_add, ← Nat.mul_add, h1]
  have e2 : P * s + P * t + P * b = P * rk + P * (18446744073709551616 * b') := by rw [← Nat.mul_add, ← Nat.mul_add, ← Nat.mul_add, h2]
  have e3 : P * 18446744073709551616 * (c' + b') = P * (18446744073709551616 * c') + P * (18446744073709551616 * b') := by grind
  have e4 : P * (c + b) = P * c + P * b := Nat.mul_add _ _ _
  omega

set_option maxRecDepth 100000 in
set_option maxHeartbeats 1000000 in
theorem take_any (S o capS D capD n part : Nat) (r d : Nat → Nat) (hn : (n : Int) ≤ 1000) (hr : ∀ j, j < n + 1 → r j < 18446744073709551616) (hd : ∀ j, j < n → d j < 18446744073709551616)
    (hp : part < 18446744073709551616) (hSD : D ≠ S) (w : World)
    (hs : ∀ j, j < n + 1 → w.cell? ⟨S, o + j, none⟩ = some (.int .u64 (r j))) (hf : ∀ j, j < n + 1 → w.frozen? ⟨S, o + j, none⟩ = false)
    (hc : ∀ j, j < n → w.cell? ⟨D, j, none⟩ = some (.int .u64 (d j))) :
    Calls Try.prog 87 #[.slice (some ⟨S, o, none⟩) ((n + 1 : Nat)) capS, .slice (some ⟨D, 0, none⟩) n capD, .int .u64 part] w (TakePost S o n part r d w) := by
  have HR := Lib.hid hr; clear hr
  have HD := Lib.hid hd; clear hd
  have HS := Lib.hid hs; clear hs
  have HF := Lib.hid hf; clear hf
  have HC := Lib.hid hc; clear hc
  have HN := Lib.hid hSD; clear hSD
  have HP := Lib.hid hp; clear hp
  go_enter Try.func87, Try.ntmps87
  go_wp2
  go_loopw [7, 8, 14] (fun c b i wr => ∃ (k cn bn : Nat) (ns : Nat → Nat), k ≤ n ∧ c = .int .u64 cn ∧ b = .int .u64 bn ∧ i = .int .i64 k ∧ Hid (cn < 18446744073709551616 ∧ bn ≤ 1 ∧ (∀ j, j < k → ns j < 18446744073709551616) ∧ val ns k + val d k * part = val r k + 18446744073709551616 ^ k * (cn + bn) ∧ Holds S o k ns w wr)) (fun _ _ i _ => n - (intOf i).toNat)
  case atStart => exact ⟨0, 0, 0, r, Nat.zero_le _, rfl, rfl, rfl, Lib.hid ⟨by omega, by omega, fun j hj => by omega, by simp [val], Holds.start S o r w⟩⟩
  case round =>
    obtain ⟨k, cn, bn, ns, hk, rfl, rfl, rfl, H⟩ := hrel
    have hk0 : (0 : Int) ≤ k := by omega
    have hk1 : (k : Int) ≤ 1000 := by omega
    by_cases hlt : k < n
    · obtain ⟨tn, c', lt, lc, et, hM⟩ := mulAdd_ex (d k) part 0 cn (HD.out k hlt) HP.out (by omega) H.out.1
      obtain ⟨sn, b', lb, ls, es, hSu⟩ := sub64_ex (r k) tn bn (HR.out k (by omega)) lt H.out.2.1
      have cd : wr.cell? ⟨D, k, none⟩ = some (.int .u64 (d k)) := by rw [H.out.2.2.2.2.1.cell (p := ⟨D, k, none⟩) HN.out]; exact HC.out k hlt
      have cs : wr.cell? ⟨S, o + k, none⟩ = some (.int .u64 (r k)) := by rw [H.out.2.2.2.2.2 (o + k), if_neg (by omega)]; exact HS.out k (by omega)
      have cf : wr.frozen? ⟨S, o + k, none⟩ = false := by rw [H.out.2.2.2.2.1.frozen]; exact HF.out k (by omega)
      have ET := Lib.hid et; clear et
      have ES := Lib.hid es; clear es
      have HM := Lib.hid hM; clear hM
      go_wp2_with fail
      refine (HM.out _).mono ?_
      rintro e w' ⟨rfl, rfl⟩
      go_wp2
      go_roundw
      case rel =>
        refine ⟨k + 1, c', b', fun j => if j = k then sn else ns j, by omega, rfl, rfl, by go_num, Lib.hid ⟨lc, lb, fun j hj => ?_, ?_, H.out.2.2.2.2.next sn (by rw [HS.out k (by omega)]; rfl)⟩⟩
        · by_cases h : j = k
          · simp only [h, if_true]; exact ls
          · simp only [h, if_false]; exact H.out.2.2.1 j (by omega)
        · have e1 : val (fun j => if j = k then sn else ns j) k = val ns k := val_congr (fun j hj => by simp only [show ¬ j = k by omega, if_false])
          simp only [val, e1, if_true]
          have hm : d k * part = d k * part := rfl
          have := take_step (P := 18446744073709551616 ^ k) (x := part) (dk := d k) (N := val ns k) (V := val d k * part) H.out.2.2.2.1 (by rw [ET.out]; omega) ES.out hm
          rw [Nat.pow_succ, Nat.add_mul, Nat.mul_assoc _ (d k) part]
          exact this
      case measure => simp [intOf]; omega
    · obtain rfl : k = n := by omega
      obtain ⟨s1, b1, lb1, ls1, es1, hS1⟩ := sub64_ex (r k) cn bn (HR.out k (by omega)) H.out.1 H.out.2.1
      have ES := Lib.hid es1; clear es1
      have cs : wr.cell? ⟨S, o + k, none⟩ = some (.int .u64 (r k)) := by rw [H.out.2.2.2.2.2 (o + k), if_neg (by omega)]; exact HS.out k (by omega)
      have cf : wr.frozen? ⟨S, o + k, none⟩ = false := by rw [H.out.2.2.2.2.1.frozen]; exact HF.out k (by omega)
      go_wp2
      go_ret
      refine ⟨fun j => if j = k then s1 else ns j, b1, rfl, lb1, fun j hj => ?_, ?_, H.out.2.2.2.2.next s1 (by rw [HS.out k (by omega)]; rfl)⟩
      · by_cases h : j = k
        · simp only [h, if_true]; exact ls1
        · simp only [h, if_false]; exact H.out.2.2.1 j (by omega)
      · have e1 : val (fun j => if j = k then s1 else ns j) k = val ns k := val_congr (fun j hj => by simp only [show ¬ j = k by omega, if_false])
        simp only [val, e1, if_true]
        have h0 := H.out.2.2.2.1
        have h1 := ES.out
        rw [Nat.mul_comm part, Nat.pow_succ, Nat.mul_assoc]
        have e2 : 18446744073709551616 ^ k * s1 + 18446744073709551616 ^ k * cn + 18446744073709551616 ^ k * bn = 18446744073709551616 ^ k * r k + 18446744073709551616 ^ k * (18446744073709551616 * b1) := by rw [← Nat.mul_add, ← Nat.mul_add, ← Nat.mul_add, h1]
        rw [Nat.mul_add] at h0
        omega
end Go.Proofs.Ytfgefifplmhopaa
namespace Go.Proofs.Ytfgefifplmhopaa
open Go.RowKit

/-- An array of n integers. -/
def ar (k : IntKind) (n : Nat) (f : Nat → Int) : Array Value := ((List.range n).map fun j => Value.int k (f j)).toArray
theorem ar_size (k : IntKind) (n : Nat) (f : Nat → Int) : (ar k n f).size = n := by simp [ar]
theorem ar_at (k : IntKind) (n : Nat) (f : Nat → Int) (j : Nat) (h : j < n) : (ar k n f)[j]? = some (.int k (f j)) := by simp [ar, h]
def updI (f : Nat → Int) (p : Nat) (y : Int) (j : Nat) : Int := if j = p then y else f j
theorem ar_set (k : IntKind) (n : Nat) (f : Nat → Int) (p : Nat) (y : Int) (h : p < n) : (ar k n f).setIfInBounds p (.int k y) = ar k n (updI f p y) := by
  apply Array.ext
  · simp [ar]
  · intro i h1 h2
    have hi : i < n := by simpa [ar] using h2
    by_cases e : i = p
    · subst e; simp [ar, updI]
    · simp [ar, updI, e, Ne.symm e]
theorem ar_congr {k : IntKind} {n : Nat} {f g : Nat → Int} (h : ∀ j, j < n → f j = g j) : ar k n f = ar k n g := by
  unfold ar
  congr 1
  apply List.map_congr_left
  intro j hj
  rw [h j (by simpa using hj)]
theorem ar_one (k : IntKind) (n : Nat) (f : Nat → Int) : (ar k n f).all (·.oneCell') = true := by simp [ar, Value.oneCell']
theorem ar_cells (k : IntKind) (n : Nat) (f : Nat → Int) : (Value.agg (ar k n f)).cells = ar k n f := by
  simp [Value.cells]
theorem index_ar {P : Program} {t e : TypeId} {k : IntKind} {n : Nat} {f : Nat → Int} {i : Nat} (w : World) (ht : P.underlying t = some (.array n e)) (hs : (sizeOf e).run P w = .ok 1 w) (ha : (isAgg e).run P w = .ok false w) (h : i < n) : (Instr.index t (.agg (ar k n f)) (.int .i64 i)).run P w = .ok (.int k (f i)) w := by
  have h0 : (0 : Int) ≤ i := by omega
  have h1 : ¬ n ≤ i := by omega
  have hc := ar_at k n f i h
  simp [Instr.index, asIntOf, run_underlying ht, part, hs, ha, h0, h1, hc, Result.andThen]
theorem run_loadVar_part {P : Program} (w : World) (g o n : Nat) (ty : TypeId) (k : IntKind) (f : Nat → Int) (d : TypeDesc) (hc : ∀ j, j < n → w.cell? ⟨g, o + j, none⟩ = some (.int k (f j)))
    (hu : P.underlying ty = some d) (hd : (match d with | .struct _ | .array _ _ => true | _ => false) = true) (hi : (P.info? ty).map (·.size) = some n) :
    (loadVar ty ⟨g, o, none⟩).run P w = .ok (.agg (ar k n f)) w := by
  have hl : (loadCells ⟨g, o, none⟩ (ar k n f).toList.length).run P w = .ok (ar k n f).toList.toArray w :=
    run_loadCells_list (P := P) w ⟨g, o, none⟩ (ar k n f).toList (fun j v hv => by
      have hjn : j < n := by
        have := (List.getElem?_eq_some_iff.1 hv).1
        rwa [Array.length_toList, ar_size] at this
      have hadd : (⟨g, o, none⟩ : Addr).add j = ⟨g, o + j, none⟩ := by unfold Addr.add; split <;> simp_all
      rw [hadd, hc j hjn]
      have h2 := ar_at k n f j hjn
      rw [← Array.getElem?_toList] at h2
      rw [← hv, h2])
  cases hq : P.info? ty with
  | none => simp [hq] at hi
  | some i =>
    have hs : i.size = n := by simpa [hq] using hi
    have hagg : (isAgg ty).run P w = .ok true w := by
      unfold isAgg
      rw [Sem.run_bind, run_underlying hu w]
      cases d <;> simp_all
    simp only [Array.length_toList, Array.toArray_toList, ar_size] at hl
    simp [loadVar, Sem.run_bind, hagg, sizeOf, typeInfo, hq, hs, hl]
theorem load_u64 (g j : Nat) (y : Int) (w : World) (h : w.cell? ⟨g, j, none⟩ = some (.int .u64 y)) : (Instr.loadAt 22 (.pointer (some ⟨g, j, none⟩))).run Try.prog w = .ok (.int .u64 y) w := by
  go_simp
theorem store_u64 (g j : Nat) (y : Int) (u : Value) (w : World) (h : w.cell? ⟨g, j, none⟩ = some u) (hf : w.frozen? ⟨g, j, none⟩ = false) : (Instr.storeAt 22 (.pointer (some ⟨g, j, none⟩)) (.int .u64 y)).run Try.prog w = .ok () (w.setCell ⟨g, j, none⟩ (.int .u64 y)) := by
  go_simp
theorem wpList_put {P : Program} {ops : Array Oper} {rest : List Oper} {o : Oper} {a : Act} {w w' : World} {Q : Exit → Act → World → Prop} (hgd : o.guard = none) (t : TypeId) (p q : Operand) (ho : o.op = .store t p q) (u v : Value) (hp : a.eval p = u) (hq : a.eval q = v)
    (hr : (Instr.storeAt t u v).run P w = .ok () w') (h : wpList P ops Q rest (a.put o.dst undef) w') : wpList P ops Q (o :: rest) a w :=
  wpList_plain hgd fun _ hK => by
    unfold Oper.wp
    unfold execOp
    simp only [ho, hp, hq, Sem.run_bind, hr, Result.andThen_ok, Sem.run_pure]
    exact hK _ _ h
theorem run_st {P : Program} {a : Act} {o : Oper} {w w' : World} (t : TypeId) (p q : Operand) (u v : Value) (ho : o.op = .store t p q) (hp : a.eval p = u) (hq : a.eval q = v) (h : (Instr.storeAt t u v).run P w = .ok () w') : (execOp a.eval o).run P w = .ok .skip w' := by
  unfold execOp
  rw [ho]
  simp only [hp, hq, Sem.run_bind, h, Result.andThen_ok, Sem.run_pure]
theorem arr_lit2 (t : Array Value) : t = ((List.range t.size).map fun i => t.getD i undef).toArray := by
  apply Array.ext
  · simp
  · intro i h1 h2
    simp [h1]
/-- Nothing that was there has turned but the block V. -/
structure Bt (V : Nat) (w w' : World) : Prop where
  os : w'.os = w.os
  tape : w'.tape = w.tape
  output : w'.output = w.output
  size : w.heap.size ≤ w'.heap.size
  block : ∀ k, k ≠ V → k < w.heap.size → w'.heap[k]? = w.heap[k]?
theorem Bt.refl (V : Nat) (w : World) : Bt V w w := ⟨rfl, rfl, rfl, Nat.le_refl _, fun _ _ _ => rfl⟩
theorem Bt.trans {V : Nat} {w w' w'' : World} (h : Bt V w w') (h' : Bt V w' w'') : Bt V w w'' :=
  ⟨h'.os.trans h.os, h'.tape.trans h.tape, h'.output.trans h.output, Nat.le_trans h.size h'.size, fun k hk hl => (h'.block k hk (Nat.lt_of_lt_of_le hl h.size)).trans (h.block k hk hl)⟩
theorem Bt.of_below {V : Nat} {w w' : World} (h : Below w.heap.size w w') : Bt V w w' := ⟨h.os, h.tape, h.output, h.size, fun k _ hl => h.block k hl⟩
theorem Bt.below {V B : Nat} {w0 w w' : World} (h0 : Below B w0 w) (h : Bt V w w') (hB : B ≤ V) (hl : B ≤ w.heap.size) : Below B w0 w' :=
  h0.trans ⟨h.os, h.tape, h.output, h.size, fun k hk => h.block k (by omega) (by omega)⟩
theorem Bt.drew {V : Nat} {w w' : World} (h : Bt V w w') : Bt V w w'.drew := ⟨h.os, h.tape, h.output, h.size, h.block⟩
theorem Bt.set {V j : Nat} {w w' : World} (h : Bt V w w') (v : Value) : Bt V w (w'.setCell ⟨V, j, none⟩ v) :=
  ⟨h.os, h.tape, h.output, Nat.le_trans h.size (by simp), fun k hk hl => (heap_setCell_other _ _ _ _ hk).trans (h.block k hk hl)⟩
theorem wpList_val {P : Program} {ops : Array Oper} {rest : List Oper} {o : Oper} {a : Act} {w w' : World} {Q : Exit → Act → World → Prop} (hgd : o.guard = none) (v : Value) (hr : (execOp a.eval o).run P w = .ok (.value v) w')
    (h : wpList P ops Q rest (a.put o.dst v) w') : wpList P ops Q (o :: rest) a w :=
  wpList_plain hgd fun _ hK => by
    unfold Oper.wp
    rw [hr]
    exact hK _ _ h
theorem wpList_sem {P : Program} {ops : Array Oper} {rest : List Oper} {o : Oper} {a : Act} {w w' : World} {Q : Exit → Act → World → Prop} (hgd : o.guard = none) (s : Sem Value) (v : Value) (ho : execOp a.eval o = (do let x ← s; pure (.value x))) (hr : s.run P w = .ok v w')
    (h : wpList P ops Q rest (a.put o.dst v) w') : wpList P ops Q (o :: rest) a w :=
  wpList_val hgd v (by rw [ho]; simp only [Sem.run_bind, hr, Result.andThen_ok, Sem.run_pure]) h
theorem q_sem2 {P : Program} {ops : Array Oper} {C : World → Prop} {Q : Act → Prop} {a : Act} {o : Oper} {rest : List Oper} (s : Sem Value) (v : Value) (hw : Region.wanted o (yielded ops a.tmps) = true) (ho : execOp a.eval o = (do let x ← s; pure (.value x))) (hr : ∀ w, C w → s.run P w = .ok v w) (h : wpQuiet P ops C Q rest (a.put o.dst v)) : wpQuiet P ops C Q (o :: rest) a :=
  q_val v hw (fun w hC => by rw [ho]; simp only [Sem.run_bind, hr w hC, Result.andThen_ok, Sem.run_pure]) h
theorem wpList_ld {P : Program} {ops : Array Oper} {rest : List Oper} {o : Oper} {a : Act} {w : World} {Q : Exit → Act → World → Prop} (hgd : o.guard = none) (T : TypeId) (x : Operand) (ho : o.op = .load T x) (p v : Value) (hp : a.eval x = p)
    (hr : (Instr.loadAt T p).run P w = .ok v w) (h : wpList P ops Q rest (a.put o.dst v) w) : wpList P ops Q (o :: rest) a w :=
  wpList_val hgd v (by unfold execOp; rw [ho]; simp only [hp, Sem.run_bind, hr, Result.andThen_ok, Sem.run_pure]) h
theorem run_nil {P : Program} {a : Act} {o : Oper} {w : World} (x : Operand) (p : Addr) (ho : o.op = .nilCheck x) (hx : a.eval x = .pointer (some p)) : (execOp a.eval o).run P w = .ok (.value (.pointer (some p))) w := by
  unfold execOp
  rw [ho]
  simp only [hx]
  rfl
theorem run_ext {P : Program} {a : Act} {o : Oper} {w : World} (x : Operand) (i : Nat) (vs : Array Value) (v : Value) (ho : o.op = .extract x i) (hx : a.eval x = .tuple vs) (hv : vs[i]? = some v) : (execOp a.eval o).run P w = .ok (.value v) w := by
  unfold execOp
  rw [ho]
  simp only [hx, Instr.extract, hv]
  rfl
end Go.Proofs.Ytfgefifplmhopaa
namespace Go.Proofs.Ytfgefifplmhopaa
open Go.RowKit

set_option maxHeartbeats 400000 in
theorem fmulAdd_walk (x y m c h l s0 d0 s1 d1 : Nat) (w : World)
    (hM : ∀ w, Calls Try.prog 89 #[.int .u64 x, .int .u64 y] w fun e w' => e = .returned (.tuple #[.int .u64 h, .int .u64 l]) ∧ w = w')
    (h0 : ∀ w, (callFunc 69 #[.int .u64 l, .int .u64 m, .int .u64 0]).run Try.prog w = .ok (.value (.tuple #[.int .u64 s0, .int .u64 d0])) w)
    (h1 : ∀ w, (callFunc 69 #[.int .u64 s0, .int .u64 c, .int .u64 0]).run Try.prog w = .ok (.value (.tuple #[.int .u64 s1, .int .u64 d1])) w)
    (b1 : (h : Int) + d0 ≤ 18446744073709551615) (b2 : (h : Int) + d0 + d1 ≤ 18446744073709551615) :
    Calls Try.prog 81 #[.int .u64 x, .int .u64 y, .int .u64 m, .int .u64 c] w fun e w' => e = .returned (.tuple #[.int .u64 s1, .int .u64 ((h + d0 + d1 : Nat) : Int)]) ∧ w = w' := by
  go_enter Try.func81, Try.ntmps81
  go_wp2_with fail
  refine (hM _).mono ?_
  rintro e w' ⟨rfl, rfl⟩
  go_wp2
  go_ret2
  exact ⟨by simp, rfl⟩
/-- WHAT mulAdd COMES TO. -/
theorem fmulAdd_ex (x y m c : Nat) (hx : x < 18446744073709551616) (hy : y < 18446744073709551616) (hm : m < 18446744073709551616) (hc : c < 18446744073709551616) :
    ∃ l h : Nat, l < 18446744073709551616 ∧ h < 18446744073709551616 ∧ l + 18446744073709551616 * h = x * y + m + c ∧
      ∀ w, Calls Try.prog 81 #[.int .u64 x, .int .u64 y, .int .u64 m, .int .u64 c] w fun e w' => e = .returned (.tuple #[.int .u64 l, .int .u64 h]) ∧ w = w' := by
  obtain ⟨h, l, lh, ll, e, hM⟩ := mul64_ex x y hx hy
  obtain ⟨s0, d0, k0, l0, e0, h0⟩ := add64_ex0 l m ll hm
  obtain ⟨s1, d1, k1, l1, e1, h1⟩ := add64_ex0 s0 c l0 hc
  have hb : x * y ≤ 18446744073709551615 * 18446744073709551615 := Nat.mul_le_mul (by omega) (by omega)
  have ht : s1 + 18446744073709551616 * (h + d0 + d1) = x * y + m + c := by omega
  have hh : h + d0 + d1 < 18446744073709551616 := by omega
  exact ⟨s1, h + d0 + d1, l1, hh, ht, fun w => fmulAdd_walk x y m c h l s0 d0 s1 d1 w hM h0 h1 (by omega) (by omega)⟩
end Go.Proofs.Ytfgefifplmhopaa
namespace Go.Proofs.Ytfgefifplmhopaa
open Go.RowKit

/-- The worlds of addTimes: eight parts in the block S, four to be read at B, o. -/
structure CA (w : World) (S : Nat) (B o : Nat) (a : Nat → Nat) (s : Nat → Nat) (wx : World) : Prop where
  bt : Bt S w wx
  row : wx.heap[S]? = some (.cells (ar .u64 8 fun j => (s j : Nat)) 58 (0, 0))
  rd : ∀ j, j < 4 → wx.cell? ⟨B, o + j, none⟩ = some (.int .u64 (a j : Nat))
  hB : B ≠ S
theorem CA.drew {w wx : World} {S B o : Nat} {a s : Nat → Nat} (c : CA w S B o a s wx) : CA w S B o a s wx.drew := ⟨c.bt.drew, c.row, c.rd, c.hB⟩
theorem CA.drewN {w wx : World} {S B o : Nat} {a s : Nat → Nat} (c : CA w S B o a s wx) (n : Nat) : CA w S B o a s (wx.drewN n) := ⟨⟨c.bt.os, c.bt.tape, c.bt.output, c.bt.size, c.bt.block⟩, c.row, c.rd, c.hB⟩
theorem CA.at_ {w wx : World} {S B o : Nat} {a s : Nat → Nat} (c : CA w S B o a s wx) (j : Nat) (hj : j < 8) : wx.cell? ⟨S, j, none⟩ = some (.int .u64 (s j : Nat)) := (cell_of_row _ _ j _ _ _ c.row).trans (ar_at _ _ _ _ hj)
def updN (s : Nat → Nat) (p y j : Nat) : Nat := if j = p then y else s j
theorem updI_N (s : Nat → Nat) (p y : Nat) : updI (fun j => ((s j : Nat) : Int)) p (y : Int) = fun j => ((updN s p y j : Nat) : Int) := by
  funext j
  unfold updI updN
  by_cases e : j = p
  · rw [if_pos e, if_pos e]
  · rw [if_neg e, if_neg e]
theorem CA.set {w wx : World} {S B o : Nat} {a s : Nat → Nat} (c : CA w S B o a s wx) (p y : Nat) (hp : p < 8) : CA w S B o a (updN s p y) (wx.setCell ⟨S, p, none⟩ (.int .u64 (y : Nat))) :=
  ⟨c.bt.set _, (heap_setCell_same _ _ _ _ _ _ c.row).trans (by rw [ar_set _ _ _ _ _ hp, updI_N]), fun j hj => (World.cell?_setCell_other _ _ _ _ (by intro e; injection e with e1 e2; exact c.hB e1.symm)).trans (c.rd j hj), c.hB⟩
theorem CA.store {w wx : World} {S B o : Nat} {a s : Nat → Nat} (c : CA w S B o a s wx) (p y : Nat) (hp : p < 8) : (Instr.storeAt 22 (.pointer (some ⟨S, p, none⟩)) (.int .u64 (y : Nat))).run Try.prog wx = .ok () (wx.setCell ⟨S, p, none⟩ (.int .u64 (y : Nat))) :=
  store_u64 _ _ _ _ _ (c.at_ p hp) (frozen_of_row _ _ p _ _ c.row)
/-- What addTimes keeps: of so many parts of the window. -/
structure RowI (s a : Nat → Nat) (i x k c : Nat) (s' : Nat → Nat) : Prop where
  lt : ∀ t, s' t < 18446744073709551616
  out : ∀ t, t < i ∨ i + k ≤ t → s' t = s t
  clt : c < 18446744073709551616
  sum : val (fun j => s' (i + j)) k + 18446744073709551616 ^ k * c = val (fun j => s (i + j)) k + x * val a k
theorem RowI.next {s a s' : Nat → Nat} {i x k c l h : Nat} (H : RowI s a i x k c s') (hl : l < 18446744073709551616) (hh : h < 18446744073709551616) (he : l + 18446744073709551616 * h = x * a k + s' (i + k) + c) : RowI s a i x (k + 1) h (updN s' (i + k) l) := by
  refine ⟨fun t => ?_, fun t ht => ?_, hh, ?_⟩
  · unfold updN
    split
    · exact hl
    · exact H.lt t
  · unfold updN
    rw [if_neg (by omega)]
    exact H.out t (by omega)
  · have h1 := H.sum
    have h2 : s' (i + k) = s (i + k) := H.out _ (.inr (Nat.le_refl _))
    simp only [val]
    rw [val_congr (f := fun j => updN s' (i + k) l (i + j)) (g := fun j => s' (i + j)) (fun j hj => by show updN s' (i + k) l (i + j) = _; unfold updN; rw [if_neg (by omega)])]
    rw [show updN s' (i + k) l (i + k) = l from if_pos rfl]
    obtain ⟨P, hP⟩ : ∃ P, 18446744073709551616 ^ k = P := ⟨_, rfl⟩
    rw [hP] at h1
    rw [Nat.pow_succ, hP]
    rw [h2] at he
    have e1 : P * l + P * 18446744073709551616 * h = P * (x * a k + s (i + k) + c) := by rw [← he, Nat.mul_add, Nat.mul_assoc]
    have e2 : P * (x * a k + s (i + k) + c) = P * (x * a k) + P * s (i + k) + P * c := by rw [Nat.mul_add, Nat.mul_add]
    have e3 : x * (val a k + P * a k) = x * val a k + P * (x * a k) := by rw [Nat.mul_add, Nat.mul_left_comm]
    rw [e3]
    omega
theorem at4p (V o j : Nat) (hj : j < 4) (w : World) : (Instr.indexAt 24 (.pointer (some ⟨V, o, none⟩)) (.int .i64 (j : Nat))).run Try.prog w = .ok (.pointer (some ⟨V, o + j, none⟩)) w := by
  have h0 : (0 : Int) ≤ j := by omega
  have h1 : (j : Int) < 4 := by omega
  go_simp
set_option maxRecDepth 100000 in
set_option maxHeartbeats 2000000 in
-- WHAT addTimes COMES TO.
theorem addTimes_any (S B o u x : Nat) (a s : Nat → Nat) (hi : u ≤ 4) (hx : x < 18446744073709551616) (ha : ∀ j, a j < 18446744073709551616) (hs : ∀ j, s j < 18446744073709551616) (hB : B ≠ S) (w : World)
    (hS : w.heap[S]? = some (.cells (ar .u64 8 fun j => (s j : Nat)) 58 (0, 0))) (hA : ∀ j, j < 4 → w.cell? ⟨B, o + j, none⟩ = some (.int .u64 (a j : Nat))) :
    Calls Try.prog 68 #[.pointer (some ⟨S, u, none⟩), .pointer (some ⟨B, o, none⟩), .int .u64 x] w fun e w' => ∃ (c : Nat) (s' : Nat → Nat), e = .returned (.int .u64 c) ∧ RowI s a u x 4 c s' ∧ CA w S B o a s' w' := by
  have H0 := Lib.hid (show CA w S B o a s w from ⟨Bt.refl _ _, hS, hA, hB⟩)
  have HX := Lib.hid (And.intro hx (And.intro ha hi))
  have HI := Lib.hid (show RowI s a u x 0 0 s from ⟨hs, fun _ _ => rfl, by omega, by simp [val]⟩)
  clear hS hA hB hx ha hs hi
  go_enter Try.func68, Try.ntmps68
  go_wp2_with fail
  go_loopw [7, 11] (fun cv iv wr => ∃ (k c : Nat) (s' : Nat → Nat), k ≤ 4 ∧ cv = .int .u64 c ∧ iv = .int .i64 k ∧ Hid (RowI s a u x k c s' ∧ CA w S B o a s' wr)) (fun _ iv _ => 4 - (intOf iv).toNat)
  case atStart => exact ⟨0, 0, s, by omega, rfl, rfl, Lib.hid ⟨HI.out, H0.out⟩⟩
  case round =>
    obtain ⟨k, c, s', hk, rfl, rfl, H⟩ := hrel
    clear HI H0
    have hk0 : (0 : Int) ≤ k := by omega
    by_cases hlt : k < 4
    · have hlt' : (k : Int) < 4 := by omega
      have ca := H.out.2.rd k hlt
      obtain ⟨p, hp⟩ : ∃ p, u + k = p := ⟨_, rfl⟩
      have hp8 : p < 8 := by have := HX.out.2.2; omega
      obtain ⟨y, hy⟩ : ∃ y, a k = y := ⟨_, rfl⟩
      obtain ⟨z, hz⟩ : ∃ z, s' p = z := ⟨_, rfl⟩
      obtain ⟨l, h, hl, hh, he, hM⟩ := fmulAdd_ex x y z c HX.out.1 (by rw [← hy]; exact HX.out.2.1 k) (by rw [← hz]; exact H.out.1.lt p) H.out.1.clt
      have HN := Lib.hid (show RowI s a u x (k + 1) h (updN s' p l) from by
        rw [← hp]
        exact H.out.1.next hl hh (by rw [hp, hz, hy]; exact he))
      have HC := Lib.hid H.out.2
      have HM := Lib.hid hM
      have HP := Lib.hid (And.intro hp (And.intro hp8 hz))
      have HK := Lib.hid hlt
      rw [hy] at ca
      clear hp hp8 hy hz hl hh he hM H
      go_wp2_with fail
      go_quiet (fail)
      go_wp2_with fail
      refine region_tieS (CA w S B o a s') (CA w S B o a (updN s' p l)) 16 (fun i s wx => match i with | 0 => s 18 = (.pointer (some ⟨S, u, none⟩)) | 1 => s 19 = (.int .i64 (k : Nat)) | 2 => s 20 = (.int .u64 x) | 3 => s 21 = (.int .u64 y) | 4 => s 22 = (.pointer (some ⟨S, u, none⟩)) | 5 => s 23 = (.int .i64 (k : Nat)) | 6 => s 24 = (.pointer (some ⟨S, u, none⟩)) | 7 => s 25 = (.pointer (some ⟨S, p, none⟩)) | 8 => s 26 = (.int .u64 z) | 9 => s 27 = (.int .u64 c) | 10 => s 28 = (.tuple #[.int .u64 l, .int .u64 h]) | 11 => s 17 = (.tuple #[.int .u64 l, .int .u64 h]) | 12 => s 29 = (.int .u64 l) | 13 => s 30 = (.int .u64 h) | 14 => s 31 = (.pointer (some ⟨S, u, none⟩)) | 15 => s 32 = (.pointer (some ⟨S, p, none⟩)) | 16 => True | 17 => s 7 = (.int .u64 h) | _ => True) (fun _ _ => True) (fun i => match i with | 0 => [18] | 1 => [19] | 2 => [20] | 3 => [21] | 4 => [22] | 5 => [23] | 6 => [24] | 7 => [25] | 8 => [26] | 9 => [27] | 10 => [28] | 11 => [17] | 12 => [29] | 13 => [30] | 14 => [31] | 15 => [32] | 16 => [] | 17 => [7] | _ => []) (fun i => i) (by kernel_rfl) (by kernel_rfl) (by kernel_rfl) (HC.out.drewN nq).drew ?_ ?_ ?_ ?_
      · intro i s s' wx he hp
        match i, he, hp with
        | 0, he, hp => exact (he 18 (by simp)).symm.trans hp
        | 1, he, hp => exact (he 19 (by simp)).symm.trans hp
        | 2, he, hp => exact (he 20 (by simp)).symm.trans hp
        | 3, he, hp => exact (he 21 (by simp)).symm.trans hp
        | 4, he, hp => exact (he 22 (by simp)).symm.trans hp
        | 5, he, hp => exact (he 23 (by simp)).symm.trans hp
        | 6, he, hp => exact (he 24 (by simp)).symm.trans hp
        | 7, he, hp => exact (he 25 (by simp)).symm.trans hp
        | 8, he, hp => exact (he 26 (by simp)).symm.trans hp
        | 9, he, hp => exact (he 27 (by simp)).symm.trans hp
        | 10, he, hp => exact (he 28 (by simp)).symm.trans hp
        | 11, he, hp => exact (he 17 (by simp)).symm.trans hp
        | 12, he, hp => exact (he 29 (by simp)).symm.trans hp
        | 13, he, hp => exact (he 30 (by simp)).symm.trans hp
        | 14, he, hp => exact (he 31 (by simp)).symm.trans hp
        | 15, he, hp => exact (he 32 (by simp)).symm.trans hp
        | 16, he, hp => trivial
        | 17, he, hp => exact (he 7 (by simp)).symm.trans hp
        | _ + 18, _, _ => trivial
      · intro i s wa wb hR hp
        match i, hp with
        | 0, hp => exact hp
        | 1, hp => exact hp
        | 2, hp => exact hp
        | 3, hp => exact hp
        | 4, hp => exact hp
        | 5, hp => exact hp
        | 6, hp => exact hp
        | 7, hp => exact hp
        | 8, hp => exact hp
        | 9, hp => exact hp
        | 10, hp => exact hp
        | 11, hp => exact hp
        | 12, hp => exact hp
        | 13, hp => exact hp
        | 14, hp => exact hp
        | 15, hp => exact hp
        | 16, hp => exact hp
        | 17, hp => exact hp
        | _ + 18, _ => trivial
      · refine ⟨?_, ?_, ?_, ?_, ?_, ?_, ?_, ?_, ?_, ?_, ?_, ?_, ?_, ?_, ?_, ?_, ?_, ?_, ?_, ?_, ?_, ?_, ?_, ?_, ?_, ?_, ?_, ?_, ?_, ?_, ?_, ?_, ?_, ?_, ?_, ?_, trivial⟩
        · intro a_ wx hC hsz hK
          refine ⟨by kernel_rfl, ?_⟩
          have h0 : a_.tmps.getD 0 undef = (.pointer (some ⟨S, u, none⟩)) := hK.1 0 (by kernel_rfl)
          exact tt_val ((.pointer (some ⟨S, u, none⟩))) (by kernel_rfl) (by rw [← h0]; kernel_rfl) hC (slots_put _ _ _ (by rw [hsz]; exact of_decide_eq_true (by kernel_rfl))) trivial
        · exact .inl (by kernel_rfl)
        · intro a_ wx hC hsz hK
          refine ⟨by kernel_rfl, ?_⟩
          have h0 : a_.tmps.getD 8 undef = (.int .i64 (k : Nat)) := hK.1 8 (by kernel_rfl)
          exact tt_val ((.int .i64 (k : Nat))) (by kernel_rfl) (by rw [← h0]; kernel_rfl) hC (slots_put _ _ _ (by rw [hsz]; exact of_decide_eq_true (by kernel_rfl))) trivial
        · exact .inl (by kernel_rfl)
        · intro a_ wx hC hsz hK
          refine ⟨by kernel_rfl, ?_⟩
          have h0 : a_.tmps.getD 2 undef = (.int .u64 x) := hK.1 2 (by kernel_rfl)
          exact tt_val ((.int .u64 x)) (by kernel_rfl) (by rw [← h0]; kernel_rfl) hC (slots_put _ _ _ (by rw [hsz]; exact of_decide_eq_true (by kernel_rfl))) trivial
        · exact .inl (by kernel_rfl)
        · intro a_ wx hC hsz hK
          refine ⟨by kernel_rfl, ?_⟩
          have h0 : a_.tmps.getD 9 undef = (.int .u64 y) := hK.1 9 (by kernel_rfl)
          exact tt_val ((.int .u64 y)) (by kernel_rfl) (by rw [← h0]; kernel_rfl) hC (slots_put _ _ _ (by rw [hsz]; exact of_decide_eq_true (by kernel_rfl))) trivial
        · exact .inl (by kernel_rfl)
        · intro a_ wx hC hsz hK
          refine ⟨by kernel_rfl, ?_⟩
          have h0 : a_.tmps.getD 0 undef = (.pointer (some ⟨S, u, none⟩)) := hK.1 0 (by kernel_rfl)
          exact tt_val ((.pointer (some ⟨S, u, none⟩))) (by kernel_rfl) (by rw [← h0]; kernel_rfl) hC (slots_put _ _ _ (by rw [hsz]; exact of_decide_eq_true (by kernel_rfl))) trivial
        · exact .inl (by kernel_rfl)
        · intro a_ wx hC hsz hK
          refine ⟨by kernel_rfl, ?_⟩
          have h0 : a_.tmps.getD 8 undef = (.int .i64 (k : Nat)) := hK.1 8 (by kernel_rfl)
          exact tt_val ((.int .i64 (k : Nat))) (by kernel_rfl) (by rw [← h0]; kernel_rfl) hC (slots_put _ _ _ (by rw [hsz]; exact of_decide_eq_true (by kernel_rfl))) trivial
        · exact .inl (by kernel_rfl)
        · intro a_ wx hC hsz hK
          refine ⟨by kernel_rfl, ?_⟩
          have h0 : a_.tmps.getD 22 undef = (.pointer (some ⟨S, u, none⟩)) := hK.2 ⟨4, .data⟩ (by simp) rfl _ rfl
          exact tt_val ((.pointer (some ⟨S, u, none⟩))) (by kernel_rfl) (run_nil (.tmp 22) _ rfl h0) hC (slots_put _ _ _ (by rw [hsz]; exact of_decide_eq_true (by kernel_rfl))) trivial
        · exact .inl (by kernel_rfl)
        · intro a_ wx hC hsz hK
          refine ⟨by kernel_rfl, ?_⟩
          have h0 : a_.tmps.getD 24 undef = (.pointer (some ⟨S, u, none⟩)) := hK.2 ⟨6, .data⟩ (by simp) rfl _ rfl
          have h1 : a_.tmps.getD 23 undef = (.int .i64 (k : Nat)) := hK.2 ⟨5, .data⟩ (by simp) rfl _ rfl
          refine tt_v (Instr.indexAt 24 (a_.tmps.getD 24 undef) (a_.tmps.getD 23 undef)) ((.pointer (some ⟨S, p, none⟩))) (by kernel_rfl) (by kernel_rfl) ?_ hC (slots_put _ _ _ (by rw [hsz]; exact of_decide_eq_true (by kernel_rfl))) trivial
          rw [h0, h1]
          exact by rw [← HP.out.1]; exact at4p _ _ _ HK.out wx
        · exact .inl (by kernel_rfl)
        · intro a_ wx hC hsz hK
          refine ⟨by kernel_rfl, ?_⟩
          have h0 : a_.tmps.getD 25 undef = (.pointer (some ⟨S, p, none⟩)) := hK.2 ⟨7, .data⟩ (by simp) rfl _ rfl
          exact tt_load 22 (.tmp 25) ((.pointer (some ⟨S, p, none⟩))) ((.int .u64 z)) rfl (by kernel_rfl) h0 (by rw [← HP.out.2.2]; exact load_u64 _ _ _ _ (hC.at_ p HP.out.2.1)) hC (slots_put _ _ _ (by rw [hsz]; exact of_decide_eq_true (by kernel_rfl))) trivial
        · exact .inl (by kernel_rfl)
        · intro a_ wx hC hsz hK
          refine ⟨by kernel_rfl, ?_⟩
          have h0 : a_.tmps.getD 7 undef = (.int .u64 c) := hK.1 7 (by kernel_rfl)
          exact tt_val ((.int .u64 c)) (by kernel_rfl) (by rw [← h0]; kernel_rfl) hC (slots_put _ _ _ (by rw [hsz]; exact of_decide_eq_true (by kernel_rfl))) trivial
        · exact .inl (by kernel_rfl)
        · intro a_ wx hC hsz hK
          refine ⟨by kernel_rfl, ?_⟩
          have h0 : a_.tmps.getD 20 undef = (.int .u64 x) := hK.2 ⟨2, .data⟩ (by simp) rfl _ rfl
          have h1 : a_.tmps.getD 21 undef = (.int .u64 y) := hK.2 ⟨3, .data⟩ (by simp) rfl _ rfl
          have h2 : a_.tmps.getD 26 undef = (.int .u64 z) := hK.2 ⟨8, .data⟩ (by simp) rfl _ rfl
          have h3 : a_.tmps.getD 27 undef = (.int .u64 c) := hK.2 ⟨9, .data⟩ (by simp) rfl _ rfl
          refine tt_call 81 #[a_.tmps.getD 20 undef, a_.tmps.getD 21 undef, a_.tmps.getD 26 undef, a_.tmps.getD 27 undef] (by kernel_rfl) (by kernel_rfl) ?_
          rw [h0, h1, h2, h3]
          exact (HM.out wx).mono fun e w' hh => ⟨_, hh.1, hh.2 ▸ hC, (slots_put _ _ _ (by rw [hsz]; exact of_decide_eq_true (by kernel_rfl))), trivial⟩
        · exact .inl (by kernel_rfl)
        · intro a_ wx hC hsz hK
          refine ⟨by kernel_rfl, ?_⟩
          have h0 : a_.tmps.getD 28 undef = (.tuple #[.int .u64 l, .int .u64 h]) := hK.2 ⟨10, .data⟩ (by simp) rfl _ rfl
          exact tt_val ((.tuple #[.int .u64 l, .int .u64 h])) (by kernel_rfl) (by rw [← h0]; kernel_rfl) hC (slots_put _ _ _ (by rw [hsz]; exact of_decide_eq_true (by kernel_rfl))) trivial
        · exact .inl (by kernel_rfl)
        · intro a_ wx hC hsz hK
          refine ⟨by kernel_rfl, ?_⟩
          have h0 : a_.tmps.getD 17 undef = (.tuple #[.int .u64 l, .int .u64 h]) := hK.2 ⟨11, .data⟩ (by simp) rfl _ rfl
          exact tt_val ((.int .u64 l)) (by kernel_rfl) (run_ext (.tmp 17) 0 _ _ rfl h0 rfl) hC (slots_put _ _ _ (by rw [hsz]; exact of_decide_eq_true (by kernel_rfl))) trivial
        · exact .inl (by kernel_rfl)
        · intro a_ wx hC hsz hK
          refine ⟨by kernel_rfl, ?_⟩
          have h0 : a_.tmps.getD 17 undef = (.tuple #[.int .u64 l, .int .u64 h]) := hK.2 ⟨11, .data⟩ (by simp) rfl _ rfl
          exact tt_val ((.int .u64 h)) (by kernel_rfl) (run_ext (.tmp 17) 1 _ _ rfl h0 rfl) hC (slots_put _ _ _ (by rw [hsz]; exact of_decide_eq_true (by kernel_rfl))) trivial
        · refine .inr (.inr ?_)
          intro a_ wx hC hsz hK
          refine ⟨by kernel_rfl, ?_⟩
          have h0 : a_.tmps.getD 17 undef = (.tuple #[.int .u64 l, .int .u64 h]) := hK.2 ⟨11, .data⟩ (by simp) rfl _ rfl
          exact tt_val ((.int .u64 h)) (by kernel_rfl) (run_ext (.tmp 17) 1 _ _ rfl h0 rfl) hC (slots_put _ _ _ (by rw [hsz]; exact of_decide_eq_true (by kernel_rfl))) trivial
        · intro a_ wx hC hsz hK
          refine ⟨by kernel_rfl, ?_⟩
          have h0 : a_.tmps.getD 18 undef = (.pointer (some ⟨S, u, none⟩)) := hK.2 ⟨0, .data⟩ (by simp) rfl _ rfl
          exact tt_val ((.pointer (some ⟨S, u, none⟩))) (by kernel_rfl) (run_nil (.tmp 18) _ rfl h0) hC (slots_put _ _ _ (by rw [hsz]; exact of_decide_eq_true (by kernel_rfl))) trivial
        · exact .inl (by kernel_rfl)
        · intro a_ wx hC hsz hK
          refine ⟨by kernel_rfl, ?_⟩
          have h0 : a_.tmps.getD 31 undef = (.pointer (some ⟨S, u, none⟩)) := hK.2 ⟨14, .data⟩ (by simp) rfl _ rfl
          have h1 : a_.tmps.getD 19 undef = (.int .i64 (k : Nat)) := hK.2 ⟨1, .data⟩ (by simp) rfl _ rfl
          refine tt_v (Instr.indexAt 24 (a_.tmps.getD 31 undef) (a_.tmps.getD 19 undef)) ((.pointer (some ⟨S, p, none⟩))) (by kernel_rfl) (by kernel_rfl) ?_ hC (slots_put _ _ _ (by rw [hsz]; exact of_decide_eq_true (by kernel_rfl))) trivial
          rw [h0, h1]
          exact by rw [← HP.out.1]; exact at4p _ _ _ HK.out wx
        · exact .inl (by kernel_rfl)
        · intro a_ wx hC hsz hK
          refine ⟨by kernel_rfl, ?_⟩
          have h0 : a_.tmps.getD 32 undef = (.pointer (some ⟨S, p, none⟩)) := hK.2 ⟨15, .data⟩ (by simp) rfl _ rfl
          have h1 : a_.tmps.getD 29 undef = (.int .u64 l) := hK.2 ⟨12, .data⟩ (by simp) rfl _ rfl
          exact tt_store (by kernel_rfl) rfl (run_st 22 (.tmp 32) (.tmp 29) _ _ rfl h0 h1 (hC.store p l HP.out.2.1)) (hC.set p l HP.out.2.1) trivial trivial
        · exact .inr (.inl rfl)
        · intro a_ wx hC hsz hK
          refine ⟨by kernel_rfl, ?_⟩
          have h0 : a_.tmps.getD 30 undef = (.int .u64 h) := hK.2 ⟨13, .data⟩ (by simp) rfl _ rfl
          exact tt_val ((.int .u64 h)) (by kernel_rfl) (by rw [← h0]; kernel_rfl) hC (slots_put _ _ _ (by rw [hsz]; exact of_decide_eq_true (by kernel_rfl))) trivial
        · refine .inr (.inr ?_)
          intro a_ wx hC hsz hK
          refine ⟨by kernel_rfl, ?_⟩
          have h0 : a_.tmps.getD 30 undef = (.int .u64 h) := hK.2 ⟨13, .data⟩ (by simp) rfl _ rfl
          exact tt_val ((.int .u64 h)) (by kernel_rfl) (by rw [← h0]; kernel_rfl) hC (slots_put _ _ _ (by rw [hsz]; exact of_decide_eq_true (by kernel_rfl))) trivial
      intro f1 wy hCy hf
      have s7 := hf 17 _ rfl
      have HCy := Lib.hid hCy
      clear hCy hf HC HM
      generalize hAct : putAll _ _ _ = G at *
      have s0' : G.tmps.getD 0 undef = (.pointer (some ⟨S, u, none⟩)) := by subst hAct; kernel_rfl
      have s1' : G.tmps.getD 1 undef = (.pointer (some ⟨B, o, none⟩)) := by subst hAct; kernel_rfl
      have s2' : G.tmps.getD 2 undef = (.int .u64 x) := by subst hAct; kernel_rfl
      have s10' : G.tmps.getD 10 undef = (.pointer (some ⟨B, o, none⟩)) := by subst hAct; kernel_rfl
      have s11' : G.tmps.getD 11 undef = (.int .i64 (k : Nat)) := by subst hAct; kernel_rfl
      have s3' : G.tmps.getD 3 undef = undef := by subst hAct; kernel_rfl
      have s4' : G.tmps.getD 4 undef = undef := by subst hAct; kernel_rfl
      have s5' : G.tmps.getD 5 undef = undef := by subst hAct; kernel_rfl
      have s34' : G.tmps.getD 34 undef = undef := by subst hAct; kernel_rfl
      have s6' : G.tmps.getD 6 undef = .int .u64 0 := by subst hAct; kernel_rfl
      have s7' : G.tmps.getD 7 undef = .int .u64 h := s7
      have hsz : G.tmps.size = 35 := by rw [← hAct, putAll_size]; rfl
      have hdf : G.defers = [] := by subst hAct; kernel_rfl
      clear hAct s7
      obtain ⟨u8, t8⟩ : ∃ u, G.tmps.getD 8 undef = u := ⟨_, rfl⟩
      obtain ⟨u9, t9⟩ : ∃ u, G.tmps.getD 9 undef = u := ⟨_, rfl⟩
      obtain ⟨u12, t12⟩ : ∃ u, G.tmps.getD 12 undef = u := ⟨_, rfl⟩
      obtain ⟨u13, t13⟩ : ∃ u, G.tmps.getD 13 undef = u := ⟨_, rfl⟩
      obtain ⟨u14, t14⟩ : ∃ u, G.tmps.getD 14 undef = u := ⟨_, rfl⟩
      obtain ⟨u15, t15⟩ : ∃ u, G.tmps.getD 15 undef = u := ⟨_, rfl⟩
      obtain ⟨u16, t16⟩ : ∃ u, G.tmps.getD 16 undef = u := ⟨_, rfl⟩
      obtain ⟨u17, t17⟩ : ∃ u, G.tmps.getD 17 undef = u := ⟨_, rfl⟩
      obtain ⟨u18, t18⟩ : ∃ u, G.tmps.getD 18 undef = u := ⟨_, rfl⟩
      obtain ⟨u19, t19⟩ : ∃ u, G.tmps.getD 19 undef = u := ⟨_, rfl⟩
      obtain ⟨u20, t20⟩ : ∃ u, G.tmps.getD 20 undef = u := ⟨_, rfl⟩
      obtain ⟨u21, t21⟩ : ∃ u, G.tmps.getD 21 undef = u := ⟨_, rfl⟩
      obtain ⟨u22, t22⟩ : ∃ u, G.tmps.getD 22 undef = u := ⟨_, rfl⟩
      obtain ⟨u23, t23⟩ : ∃ u, G.tmps.getD 23 undef = u := ⟨_, rfl⟩
      obtain ⟨u24, t24⟩ : ∃ u, G.tmps.getD 24 undef = u := ⟨_, rfl⟩
      obtain ⟨u25, t25⟩ : ∃ u, G.tmps.getD 25 undef = u := ⟨_, rfl⟩
      obtain ⟨u26, t26⟩ : ∃ u, G.tmps.getD 26 undef = u := ⟨_, rfl⟩
      obtain ⟨u27, t27⟩ : ∃ u, G.tmps.getD 27 undef = u := ⟨_, rfl⟩
      obtain ⟨u28, t28⟩ : ∃ u, G.tmps.getD 28 undef = u := ⟨_, rfl⟩
      obtain ⟨u29, t29⟩ : ∃ u, G.tmps.getD 29 undef = u := ⟨_, rfl⟩
      obtain ⟨u30, t30⟩ : ∃ u, G.tmps.getD 30 undef = u := ⟨_, rfl⟩
      obtain ⟨u31, t31⟩ : ∃ u, G.tmps.getD 31 undef = u := ⟨_, rfl⟩
      obtain ⟨u32, t32⟩ : ∃ u, G.tmps.getD 32 undef = u := ⟨_, rfl⟩
      obtain ⟨u33, t33⟩ : ∃ u, G.tmps.getD 33 undef = u := ⟨_, rfl⟩
      obtain ⟨tm, df⟩ := G
      simp only at *
      have hLt := arr_lit2 tm
      rw [hsz] at hLt
      simp only [List.range, List.range.loop, List.map] at hLt
      rw [s0', s1', s2', s3', s4', s5', s6', s7', t8, t9, s10', s11', t12, t13, t14, t15, t16, t17, t18, t19, t20, t21, t22, t23, t24, t25, t26, t27, t28, t29, t30, t31, t32, t33, s34'] at hLt
      subst hLt hdf
      clear s0' s1' s2' s3' s4' s5' s6' s7' t8 t9 s10' s11' t12 t13 t14 t15 t16 t17 t18 t19 t20 t21 t22 t23 t24 t25 t26 t27 t28 t29 t30 t31 t32 t33 s34' hsz
      go_wp2_with fail
      go_roundw
      case rel => exact ⟨k + 1, h, updN s' p l, by have := HK.out; omega, rfl, by go_num, Lib.hid ⟨HN.out, HCy.out⟩⟩
      case measure => simp [intOf]; omega
    · obtain rfl : k = 4 := by omega
      have hlt' : ¬ ((4 : Nat) : Int) < 4 := by omega
      go_wp2_with fail
      go_ret
      exact ⟨c, rfl, s', H.out.1, H.out.2⟩
end Go.Proofs.Ytfgefifplmhopaa
namespace Go.Proofs.Ytfgefifplmhopaa

/-- What times 2^256 is 1 modulo m. -/
def rinv (m : Nat) : Nat := ((m + 1) / 2) ^ 256 % m
theorem rinv_eq {m : Nat} (ho : m % 2 = 1) (h1 : 1 < m) : 115792089237316195423570985008687907853269984665640564039457584007913129639936 * rinv m % m = 1 := by
  unfold rinv
  have e : (115792089237316195423570985008687907853269984665640564039457584007913129639936 : Nat) = 2 ^ 256 := by decide
  rw [e, Nat.mul_mod, Nat.mod_mod, ← Nat.mul_mod, ← Nat.mul_pow, show 2 * ((m + 1) / 2) = m + 1 by omega, Nat.pow_mod, Nat.add_mod_left, Nat.mod_eq_of_lt h1, Nat.one_pow, Nat.mod_eq_of_lt h1]
/-- The product by 2^256. -/
def mnt (m a b : Nat) : Nat := a * b * rinv m % m
theorem mnt_lt {m : Nat} (a b : Nat) (h : 0 < m) : mnt m a b < m := Nat.mod_lt _ h
theorem mul_mod_l (a b m : Nat) : a % m * b % m = a * b % m := by rw [Nat.mul_mod, Nat.mod_mod, ← Nat.mul_mod]
theorem mul_mod_r (a b m : Nat) : a * (b % m) % m = a * b % m := by rw [Nat.mul_mod, Nat.mod_mod, ← Nat.mul_mod]
theorem mnt_uniq {m r a b : Nat} (ho : m % 2 = 1) (h1 : 1 < m) (hr : r < m) (h : r * 115792089237316195423570985008687907853269984665640564039457584007913129639936 % m = a * b % m) : r = mnt m a b := by
  unfold mnt
  rw [← mul_mod_l, ← h, mul_mod_l, Nat.mul_assoc, ← mul_mod_r, rinv_eq ho h1, Nat.mul_one, Nat.mod_eq_of_lt hr]
theorem mnt_back {m : Nat} (ho : m % 2 = 1) (h1 : 1 < m) (a b : Nat) : mnt m (a * 115792089237316195423570985008687907853269984665640564039457584007913129639936 % m) b = a * b % m := by
  refine (mnt_uniq ho h1 (Nat.mod_lt _ (by omega)) ?_).symm
  rw [mul_mod_l, mul_mod_l, Nat.mul_right_comm]
theorem mnt_scaled {m : Nat} (ho : m % 2 = 1) (h1 : 1 < m) (a : Nat) : mnt m a (115792089237316195423570985008687907853269984665640564039457584007913129639936 * 115792089237316195423570985008687907853269984665640564039457584007913129639936 % m) = a * 115792089237316195423570985008687907853269984665640564039457584007913129639936 % m := by
  refine (mnt_uniq ho h1 (Nat.mod_lt _ (by omega)) ?_).symm
  rw [mul_mod_l, mul_mod_r, Nat.mul_assoc]
theorem mnt_both {m : Nat} (ho : m % 2 = 1) (h1 : 1 < m) (a b : Nat) : mnt m (a * 115792089237316195423570985008687907853269984665640564039457584007913129639936 % m) (b * 115792089237316195423570985008687907853269984665640564039457584007913129639936 % m) = a * b * 115792089237316195423570985008687907853269984665640564039457584007913129639936 % m := by
  rw [mnt_back ho h1, mul_mod_r, Nat.mul_assoc]
theorem mnt_mod_l {m : Nat} (a b : Nat) : mnt m (a % m) b = mnt m a b := by
  unfold mnt
  rw [Nat.mul_assoc, mul_mod_l, Nat.mul_assoc]

/-! What times an odd part is 1 modulo 2^64. -/
def nst (p x : Nat) : Nat := x * ((18446744073709551616 + 2 - p * x % 18446744073709551616) % 18446744073709551616) % 18446744073709551616
def pin (p : Nat) : Nat → Nat
  | 0 => p
  | k + 1 => nst p (pin p k)
theorem newton {k : Nat} {p x : Int} (h : (2 : Int) ^ k ∣ 1 - p * x) : (2 : Int) ^ (k + k) ∣ 1 - p * (x * (2 - p * x)) := by
  obtain ⟨t, ht⟩ := h
  refine ⟨t * t, ?_⟩
  have e : 1 - p * (x * (2 - p * x)) = (1 - p * x) * (1 - p * x) := by
    rw [← Int.mul_assoc]
    generalize p * x = q
    simp only [Int.mul_sub, Int.sub_mul, Int.one_mul, Int.mul_one]
    omega
  rw [e, ht, Int.pow_add, Int.mul_assoc, Int.mul_left_comm t, ← Int.mul_assoc]
theorem dvd_same {k : Nat} {p x y : Int} (hk : k ≤ 64) (hxy : (2 : Int) ^ 64 ∣ x - y) (h : (2 : Int) ^ k ∣ 1 - p * x) : (2 : Int) ^ k ∣ 1 - p * y := by
  have h1 : (2 : Int) ^ k ∣ x - y := Int.dvd_trans (by obtain ⟨j, hj⟩ := Nat.exists_eq_add_of_le hk; rw [hj, Int.pow_add]; exact Int.dvd_mul_right _ _) hxy
  have h2 : 1 - p * y = (1 - p * x) + p * (x - y) := by rw [Int.mul_sub]; omega
  rw [h2]
  exact Int.dvd_add h (Int.dvd_trans h1 (Int.dvd_mul_left _ _))
theorem nst_dvd (p x : Nat) : (2 : Int) ^ 64 ∣ (x : Int) * (2 - p * x) - ((nst p x : Nat) : Int) := by
  unfold nst
  obtain ⟨q, hq⟩ : ∃ q, p * x = q := ⟨_, rfl⟩
  have hqi : (p : Int) * (x : Int) = (q : Int) := by rw [← hq]; simp
  rw [hq, hqi]
  obtain ⟨u, hu⟩ : ∃ u, (18446744073709551616 + 2 - q % 18446744073709551616) % 18446744073709551616 = u := ⟨_, rfl⟩
  rw [hu]
  have h1 : (18446744073709551616 : Int) ∣ (2 - (q : Int)) - (u : Int) := by omega
  have h2 : (18446744073709551616 : Int) ∣ ((x * u : Nat) : Int) - ((x * u % 18446744073709551616 : Nat) : Int) := by omega
  have e : (x : Int) * (2 - (q : Int)) - ((x * u % 18446744073709551616 : Nat) : Int) = (x : Int) * ((2 - (q : Int)) - (u : Int)) + (((x * u : Nat) : Int) - ((x * u % 18446744073709551616 : Nat) : Int)) := by
    rw [Int.mul_sub (x : Int) (2 - (q : Int)) (u : Int)]
    have : ((x * u : Nat) : Int) = (x : Int) * (u : Int) := by simp
    omega
  rw [e]
  exact Int.dvd_add (Int.dvd_trans h1 (Int.dvd_mul_left _ _)) h2
theorem pin_step {k j p : Nat} (n : Nat) (hj : j ≤ 64) (hjk : j ≤ k + k) (h : (2 : Int) ^ k ∣ 1 - p * (pin p n : Nat)) : (2 : Int) ^ j ∣ 1 - (p : Int) * ((pin p (n + 1) : Nat) : Int) := by
  refine dvd_same hj (nst_dvd p (pin p n)) ?_
  refine Int.dvd_trans ?_ (newton h)
  obtain ⟨i, hi⟩ := Nat.exists_eq_add_of_le hjk
  rw [hi, Int.pow_add]
  exact Int.dvd_mul_right _ _
theorem pin_ok {p : Nat} (ho : p % 2 = 1) : (2 : Int) ^ 64 ∣ 1 - (p : Int) * ((pin p 5 : Nat) : Int) := by
  have h0 : (2 : Int) ^ 3 ∣ 1 - (p : Int) * ((pin p 0 : Nat) : Int) := by
    show (8 : Int) ∣ 1 - (p : Int) * (p : Int)
    have h1 : p * p % 8 = 1 := by
      rw [Nat.mul_mod]
      have : p % 8 = 1 ∨ p % 8 = 3 ∨ p % 8 = 5 ∨ p % 8 = 7 := by omega
      rcases this with e | e | e | e <;> rw [e]
    have h2 : (p : Int) * (p : Int) = ((p * p : Nat) : Int) := by simp
    rw [h2]
    omega
  have h1 := pin_step (j := 6) 0 (by omega) (by omega) h0
  have h2 := pin_step (j := 12) 1 (by omega) (by omega) h1
  have h3 := pin_step (j := 24) 2 (by omega) (by omega) h2
  have h4 := pin_step (j := 48) 3 (by omega) (by omega) h3
  exact pin_step (j := 64) 4 (by omega) (by omega) h4
/-- What times the lowest part is -1 modulo 2^64. -/
def nin (m : Nat) : Nat := (18446744073709551616 - pin (m % 18446744073709551616) 5) % 18446744073709551616
theorem pin_lt (p n : Nat) (hp : p < 18446744073709551616) : pin p n < 18446744073709551616 := by
  cases n with
  | zero => exact hp
  | succ n => exact Nat.mod_lt _ (by omega)
theorem nin_ok {m : Nat} (ho : m % 2 = 1) (s : Nat) : (s + s * nin m % 18446744073709551616 * (m % 18446744073709551616)) % 18446744073709551616 = 0 := by
  have h := pin_ok (p := m % 18446744073709551616) (by omega)
  have hlt := pin_lt (m % 18446744073709551616) 5 (Nat.mod_lt _ (by omega))
  unfold nin
  obtain ⟨p, hp⟩ : ∃ p, m % 18446744073709551616 = p := ⟨_, rfl⟩
  rw [hp] at h hlt ⊢
  obtain ⟨x, hx⟩ : ∃ x, pin p 5 = x := ⟨_, rfl⟩
  rw [hx] at h hlt ⊢
  have h1 : p * x % 18446744073709551616 = 1 := by
    have e : (p : Int) * (x : Int) = ((p * x : Nat) : Int) := by simp
    rw [e] at h
    have h2 : (18446744073709551616 : Int) ∣ 1 - ((p * x : Nat) : Int) := h
    omega
  obtain ⟨y, hy⟩ : ∃ y, (18446744073709551616 - x) % 18446744073709551616 = y := ⟨_, rfl⟩
  rw [hy]
  have h3 : (p * y + 1) % 18446744073709551616 = 0 := by
    have hx0 : x ≠ 0 := by rintro rfl; simp at h1
    have e : y = 18446744073709551616 - x := by omega
    have h4 : p * y + p * x = p * 18446744073709551616 := by rw [e, ← Nat.mul_add]; congr 1; omega
    omega
  have h4 : (s * y % 18446744073709551616 * p) % 18446744073709551616 = s * (p * y) % 18446744073709551616 := by rw [mul_mod_l, Nat.mul_assoc, Nat.mul_comm y]
  have h5 : s * (p * y) + s = s * (p * y + 1) := by rw [Nat.mul_add, Nat.mul_one]
  have h6 : s * (p * y + 1) % 18446744073709551616 = 0 := by rw [Nat.mul_mod, h3, Nat.mul_zero, Nat.zero_mod]
  omega
end Go.Proofs.Ytfgefifplmhopaa
namespace Go.Proofs.Ytfgefifplmhopaa
open Go.RowKit

theorem eqW (a0 a1 a2 a3 b0 b1 b2 b3 : Nat) (w : World) :
    (Op.equalIn 10000 24 (.agg #[.int .u64 a0, .int .u64 a1, .int .u64 a2, .int .u64 a3]) (.agg #[.int .u64 b0, .int .u64 b1, .int .u64 b2, .int .u64 b3])).run Try.prog w = .ok ((a0 == b0) && ((a1 == b1) && ((a2 == b2) && (a3 == b3)))) w := by
  have u3 := Try.underlying22
  have a3' := Try.isAgg22
  have z3 := Try.sizeOf22
  rw [show (10000 : Nat) = 9999 + 1 from rfl, Op.equalIn]
  simp only [Sem.run_bind, run_underlying Try.underlying24, Result.andThen_ok]
  simp only [Std.Legacy.Range.forIn_eq_forIn_range', Std.Legacy.Range.size, Nat.sub_zero, Nat.add_sub_cancel, Nat.div_one, List.range'_succ, List.range'_zero, List.forIn_cons, List.forIn_nil]
  go_simp
  simp only [Int.natCast_inj]
  by_cases h0 : a0 = b0
  · by_cases h1 : a1 = b1
    · by_cases h2 : a2 = b2
      · by_cases h3 : a3 = b3
        · simp [h0, h1, h2, h3]
        · simp [h0, h1, h2, h3]
      · simp [h0, h1, h2]
    · simp [h0, h1]
  · simp [h0]
end Go.Proofs.Ytfgefifplmhopaa
namespace Go.Proofs.Ytfgefifplmhopaa
open Go.RowKit

set_option maxHeartbeats 400000 in
theorem of_exact (n : Nat) (w : World) :
    Calls Try.prog 30 #[.int .u64 n] w fun e w' => e = .returned (.agg #[.int .u64 n, .int .u64 0, .int .u64 0, .int .u64 0]) ∧ w.alloc (.cells #[.int .u64 n, .int .u64 0, .int .u64 0, .int .u64 0] 24) = w' := by
  go_enter Try.func30, Try.ntmps30
  go_wp2
  go_returns
  exact ⟨rfl, rfl⟩

set_option maxRecDepth 100000 in
set_option maxHeartbeats 400000 in
theorem small_yes (a0 : Nat) (w : World) :
    Calls Try.prog 90 #[.agg #[.int .u64 a0, .int .u64 0, .int .u64 0, .int .u64 0]] w fun e w' => e = .returned (.tuple #[.int .u64 a0, .bool true]) ∧ Below w.heap.size w w' := by
  have he : ∀ w, (Op.equalIn 10000 24 (.agg #[.int .u64 a0, .int .u64 0, .int .u64 0, .int .u64 0]) (.agg #[.int .u64 a0, .int .u64 0, .int .u64 0, .int .u64 0])).run Try.prog w = .ok true w := fun w => by
    have := eqW a0 0 0 0 a0 0 0 0 w
    simpa using this
  go_enter Try.func90, Try.ntmps90
  go_wp2
  go_region_with (go_at_call 30; refine (of_exact a0 _).mono ?_; rintro e w' ⟨rfl, rfl⟩)
  all_goals go_wp2
  all_goals (go_ret2; exact ⟨rfl, by go_grown⟩)

set_option maxRecDepth 100000 in
set_option maxHeartbeats 400000 in
theorem small_no (a0 a1 a2 a3 : Nat) (h : ¬ (a1 = 0 ∧ a2 = 0 ∧ a3 = 0)) (w : World) :
    Calls Try.prog 90 #[.agg #[.int .u64 a0, .int .u64 a1, .int .u64 a2, .int .u64 a3]] w fun e w' => e = .returned (.tuple #[.int .u64 0, .bool false]) ∧ Below w.heap.size w w' := by
  have he : ∀ w, (Op.equalIn 10000 24 (.agg #[.int .u64 a0, .int .u64 a1, .int .u64 a2, .int .u64 a3]) (.agg #[.int .u64 a0, .int .u64 0, .int .u64 0, .int .u64 0])).run Try.prog w = .ok false w := fun w => by
    have := eqW a0 a1 a2 a3 a0 0 0 0 w
    have hf : (a0 == a0 && (a1 == 0 && (a2 == 0 && a3 == 0))) = false := by simpa using h
    rw [hf] at this
    exact this
  clear h
  go_enter Try.func90, Try.ntmps90
  go_wp2
  go_region_with (go_at_call 30; refine (of_exact a0 _).mono ?_; rintro e w' ⟨rfl, rfl⟩)
  all_goals go_wp2
  all_goals (go_ret2; exact ⟨rfl, by go_grown⟩)
end Go.Proofs.Ytfgefifplmhopaa
namespace Go.Proofs.Ytfgefifplmhopaa
open Go.RowKit

-- WHAT Small COMES TO.
theorem small_any (x : Nat) (w : World) :
    Calls Try.prog 90 #[wv x] w fun e w' => e = .returned (.tuple #[.int .u64 ((if x % 115792089237316195423570985008687907853269984665640564039457584007913129639936 < 18446744073709551616 then x % 115792089237316195423570985008687907853269984665640564039457584007913129639936 else 0 : Nat) : Int), .bool (decide (x % 115792089237316195423570985008687907853269984665640564039457584007913129639936 < 18446744073709551616))]) ∧ Below w.heap.size w w' := by
  obtain ⟨a0, a1, a2, a3, u0, u1, u2, u3, ea, na⟩ := wv_parts x
  rw [ea, ← na]
  by_cases h : a1 = 0 ∧ a2 = 0 ∧ a3 = 0
  · obtain ⟨rfl, rfl, rfl⟩ := h
    have e : n4 a0 0 0 0 = a0 := by unfold n4; omega
    rw [e, if_pos u0, decide_eq_true u0]
    exact small_yes a0 w
  · have e : ¬ n4 a0 a1 a2 a3 < 18446744073709551616 := by unfold n4; omega
    rw [if_neg e, decide_eq_false e]
    exact small_no a0 a1 a2 a3 h w

set_option maxRecDepth 100000 in
set_option maxHeartbeats 400000 in
theorem steps_few (a0 a1 a2 a3 n : Nat) (hn : (n : Int) ≤ 256) (w : World)
    (hS : ∀ w, Calls Try.prog 90 #[.agg #[.int .u64 a0, .int .u64 a1, .int .u64 a2, .int .u64 a3]] w fun e w' => e = .returned (.tuple #[.int .u64 n, .bool true]) ∧ Below w.heap.size w w') :
    Calls Try.prog 82 #[.agg #[.int .u64 a0, .int .u64 a1, .int .u64 a2, .int .u64 a3]] w fun e w' => e = .returned (.tuple #[.int .i64 ((n / 64 : Nat) : Int), .int .i64 ((n % 64 : Nat) : Int)]) ∧ Below w.heap.size w w' := by
  have hn' : ¬ (256 : Int) < n := by omega
  have h0 : (0 : Int) ≤ n := by omega
  go_enter Try.func82, Try.ntmps82
  go_wp2_with fail
  refine (hS _).mono ?_
  rintro e w1 ⟨rfl, hb⟩
  have hb' : Below w.heap.size w w1 := Below.trans (by go_grown) (hb.mono (by simp))
  clear hb
  go_wp2
  go_outline
  go_ret2
  exact ⟨by simp, hb'⟩

set_option maxRecDepth 100000 in
set_option maxHeartbeats 400000 in
theorem steps_many (a0 a1 a2 a3 n : Nat) (b : Bool) (hn : b = true → (256 : Int) < n) (w : World)
    (hS : ∀ w, Calls Try.prog 90 #[.agg #[.int .u64 a0, .int .u64 a1, .int .u64 a2, .int .u64 a3]] w fun e w' => e = .returned (.tuple #[.int .u64 n, .bool b]) ∧ Below w.heap.size w w') :
    Calls Try.prog 82 #[.agg #[.int .u64 a0, .int .u64 a1, .int .u64 a2, .int .u64 a3]] w fun e w' => e = .returned (.tuple #[.int .i64 4, .int .i64 0]) ∧ Below w.heap.size w w' := by
  have h0 : (0 : Int) ≤ n := by omega
  cases b
  all_goals
    try have hn' := hn rfl
    clear hn
    go_enter Try.func82, Try.ntmps82
    go_wp2_with fail
    refine (hS _).mono ?_
    rintro e w1 ⟨rfl, hb⟩
    have hb' : Below w.heap.size w w1 := Below.trans (by go_grown) (hb.mono (by simp))
    clear hb
    go_wp2
    go_ret2
    exact ⟨by simp, hb'⟩

-- WHAT steps COMES TO.
theorem steps_any (x : Nat) (w : World) :
    Calls Try.prog 82 #[wv x] w fun e w' => e = .returned (.tuple #[.int .i64 ((min (x % 115792089237316195423570985008687907853269984665640564039457584007913129639936) 256 / 64 : Nat) : Int), .int .i64 ((min (x % 115792089237316195423570985008687907853269984665640564039457584007913129639936) 256 % 64 : Nat) : Int)]) ∧ Below w.heap.size w w' := by
  have hS := fun w => small_any x w
  obtain ⟨a0, a1, a2, a3, u0, u1, u2, u3, ea, na⟩ := wv_parts x
  generalize x % 115792089237316195423570985008687907853269984665640564039457584007913129639936 = y at *
  rw [ea] at hS
  rw [ea]
  by_cases h : y ≤ 256
  · rw [if_pos (by omega), decide_eq_true (by omega)] at hS
    rw [Nat.min_eq_left h]
    exact steps_few a0 a1 a2 a3 y (by omega) w hS
  · rw [Nat.min_eq_right (by omega)]
    exact steps_many a0 a1 a2 a3 _ _ (fun hb => by rw [if_pos (by simpa using hb)]; omega) w hS
end Go.Proofs.Ytfgefifplmhopaa
namespace Go.Proofs.Ytfgefifplmhopaa
open Go.RowKit

/-- Block B is a word with these parts. -/
def Holds4 (B : Nat) (v0 v1 v2 v3 : Value) (wx : World) : Prop := wx.cell? ⟨B, 0, none⟩ = some v0 ∧ wx.cell? ⟨B, 1, none⟩ = some v1 ∧ wx.cell? ⟨B, 2, none⟩ = some v2 ∧ wx.cell? ⟨B, 3, none⟩ = some v3
theorem Holds4.below {B : Nat} {v0 v1 v2 v3 : Value} {wx w' : World} (h : Holds4 B v0 v1 v2 v3 wx) (hb : Below wx.heap.size wx w') (hB : B < wx.heap.size) : Holds4 B v0 v1 v2 v3 w' :=
  ⟨(hb.cell hB).trans h.1, (hb.cell hB).trans h.2.1, (hb.cell hB).trans h.2.2.1, (hb.cell hB).trans h.2.2.2⟩

/-- The worlds of a law's last statement: nothing elder has turned; some blocks are the words that they were. -/
def ClG (w : World) (top : Nat) (Cs : World → Prop) (wx : World) : Prop := Below w.heap.size w wx ∧ top < wx.heap.size ∧ Cs wx
theorem ClG.drew {w wx : World} {top : Nat} {Cs : World → Prop} (hd : ∀ wx, Cs wx → Cs wx.drew) (h : ClG w top Cs wx) : ClG w top Cs wx.drew := ⟨h.1.drew, h.2.1, hd _ h.2.2⟩
theorem ClG.below {w wx w' : World} {top : Nat} {Cs : World → Prop} (hk : ∀ wx w', top < wx.heap.size → Below wx.heap.size wx w' → Cs wx → Cs w') (h : ClG w top Cs wx) (hb : Below wx.heap.size wx w') : ClG w top Cs w' :=
  ⟨h.1.trans (hb.mono h.1.size), Nat.lt_of_lt_of_le h.2.1 hb.size, hk _ _ h.2.1 hb h.2.2⟩

set_option maxHeartbeats 400000 in
/-- A whole word loaded. -/
theorem load4 (B : Nat) {v0 v1 v2 v3 : Value} {w : World} (h : Holds4 B v0 v1 v2 v3 w) : (Instr.loadAt 24 (.pointer (some ⟨B, 0, none⟩))).run Try.prog w = .ok (.agg #[v0, v1, v2, v3]) w := by
  obtain ⟨c0, c1, c2, c3⟩ := h
  go_simp
end Go.Proofs.Ytfgefifplmhopaa
namespace Go.Proofs.Ytfgefifplmhopaa
open Go.RowKit

/-- Part p of a word. -/
def pN (x p : Nat) : Nat := x % 115792089237316195423570985008687907853269984665640564039457584007913129639936 / 2 ^ (64 * p) % 18446744073709551616
theorem pN_le (x p : Nat) : pN x p < 18446744073709551616 := by unfold pN; omega
/-- The byte of a word at n, 0 the highest. -/
def bt (x n : Nat) : Nat := x % 115792089237316195423570985008687907853269984665640564039457584007913129639936 / 256 ^ (31 - n) % 256
theorem bt_le (x n : Nat) : bt x n ≤ 255 := by unfold bt; omega

theorem cut_mod (Y s : Nat) (hs : s ≤ 56) : Y % 18446744073709551616 / 2 ^ s % 256 = Y / 2 ^ s % 256 := by
  have e : 18446744073709551616 = 2 ^ s * 2 ^ (64 - s) := by rw [← Nat.pow_add, show s + (64 - s) = 64 by omega]
  rw [e, Nat.mod_mul_right_div_self, Nat.mod_mod_of_dvd]
  have : (256 : Nat) = 2 ^ 8 := by rfl
  rw [this]
  exact Nat.pow_dvd_pow 2 (by omega)

theorem bt_of (x k p s : Nat) (_hk : k < 32) (hp : (31 - k) / 8 = p) (hs : (31 - k) % 8 * 8 = s) : pN x p / 2 ^ s % 256 = bt x k := by
  subst hp hs
  unfold pN bt
  rw [cut_mod _ _ (by omega), Nat.div_div_eq_div_mul, ← Nat.pow_add, show (256 : Nat) = 2 ^ 8 by rfl, ← Nat.pow_mul, show 64 * ((31 - k) / 8) + (31 - k) % 8 * 8 = 8 * (31 - k) by omega]

/-- The row of bytes, of which k have been written. -/
def brow (f : Nat → Nat) (k : Nat) : Array Value := ((List.range 32).map fun j => Value.int .u8 ((if j < k then f j else 0 : Nat) : Int)).toArray
theorem brow_size (f : Nat → Nat) (k : Nat) : (brow f k).size = 32 := by simp [brow]
theorem brow_at (f : Nat → Nat) (k j : Nat) (h : j < 32) : (brow f k)[j]? = some (.int .u8 ((if j < k then f j else 0 : Nat) : Int)) := by
  simp [brow, h]
theorem brow_set (f : Nat → Nat) (k : Nat) (h : k < 32) : (brow f k).setIfInBounds k (.int .u8 (f k : Nat)) = brow f (k + 1) := by
  apply Array.ext
  · simp [brow]
  · intro i h1 h2
    have hi : i < 32 := by simpa [brow] using h2
    by_cases e : i = k
    · subst e; simp [brow]
    · by_cases l : i < k
      · simp [brow, l, show i < k + 1 by omega, Ne.symm e]
      · simp [brow, l, show ¬ i < k + 1 by omega, Ne.symm e]
theorem brow_nought (f : Nat → Nat) : brow f 0 = #[.int .u8 0, .int .u8 0, .int .u8 0, .int .u8 0, .int .u8 0, .int .u8 0, .int .u8 0, .int .u8 0, .int .u8 0, .int .u8 0, .int .u8 0, .int .u8 0, .int .u8 0, .int .u8 0, .int .u8 0, .int .u8 0, .int .u8 0, .int .u8 0, .int .u8 0, .int .u8 0, .int .u8 0, .int .u8 0, .int .u8 0, .int .u8 0, .int .u8 0, .int .u8 0, .int .u8 0, .int .u8 0, .int .u8 0, .int .u8 0, .int .u8 0, .int .u8 0] := by kernel_rfl
theorem brow_full (f : Nat → Nat) : brow f 32 = #[.int .u8 (f 0 : Nat), .int .u8 (f 1 : Nat), .int .u8 (f 2 : Nat), .int .u8 (f 3 : Nat), .int .u8 (f 4 : Nat), .int .u8 (f 5 : Nat), .int .u8 (f 6 : Nat), .int .u8 (f 7 : Nat), .int .u8 (f 8 : Nat), .int .u8 (f 9 : Nat), .int .u8 (f 10 : Nat), .int .u8 (f 11 : Nat), .int .u8 (f 12 : Nat), .int .u8 (f 13 : Nat), .int .u8 (f 14 : Nat), .int .u8 (f 15 : Nat), .int .u8 (f 16 : Nat), .int .u8 (f 17 : Nat), .int .u8 (f 18 : Nat), .int .u8 (f 19 : Nat), .int .u8 (f 20 : Nat), .int .u8 (f 21 : Nat), .int .u8 (f 22 : Nat), .int .u8 (f 23 : Nat), .int .u8 (f 24 : Nat), .int .u8 (f 25 : Nat), .int .u8 (f 26 : Nat), .int .u8 (f 27 : Nat), .int .u8 (f 28 : Nat), .int .u8 (f 29 : Nat), .int .u8 (f 30 : Nat), .int .u8 (f 31 : Nat)] := by kernel_rfl
theorem brow_one (f : Nat → Nat) (k : Nat) : (brow f k).all (·.oneCell') = true := by
  simp [brow, Value.oneCell']
theorem heap3 (w : World) (A B C : Obj) : (((w.alloc A).alloc B).alloc C).heap[w.heap.size]? = some A ∧ (((w.alloc A).alloc B).alloc C).heap[w.heap.size + 1]? = some B ∧ (((w.alloc A).alloc B).alloc C).heap[w.heap.size + 1 + 1]? = some C := by
  show (((w.heap.push A).push B).push C)[w.heap.size]? = _ ∧ (((w.heap.push A).push B).push C)[w.heap.size + 1]? = _ ∧ (((w.heap.push A).push B).push C)[w.heap.size + 1 + 1]? = _
  refine ⟨?_, ?_, ?_⟩
  · simp [Array.getElem?_push]
    omega
  · have h : w.heap.size + 1 ≠ (((w.heap.push A).push B)).size := by simp
    rw [Array.getElem?_push, if_neg h, Array.getElem?_push, if_pos (by simp)]
  · rw [Array.getElem?_push, if_pos (by simp)]

theorem wpList_store_row {P : Program} {ops : Array Oper} {rest : List Oper} {o : Oper} {a : Act} {w : World} {Q : Exit → Act → World → Prop} (hgd : o.guard = none) (ty : TypeId) (x y : Operand) (ho : o.op = .store ty x y)
    (g : Nat) (cells : Array Value) (hx : a.eval x = .pointer (some ⟨g, 0, none⟩)) (hy : a.eval y = .agg cells)
    (t : TypeId) (old : Array Value) (hg : w.heap[g]? = some (.cells old t (0, 0))) (hi : (P.info? ty).map (·.size) = some cells.size)
    (hold : old.size = cells.size) (h1 : cells.all (·.oneCell') = true)
    (h : wpList P ops Q rest (a.put o.dst undef) (w.setRow g cells)) : wpList P ops Q (o :: rest) a w :=
  wpList_plain hgd fun _ hK => wp_store_row ty x y ho g cells hx hy t old hg hi hold h1 (hK _ _ h)

theorem below_heap {B : Nat} {w w' : World} (h : Below B w w') {k : Nat} (hk : k < B) : w'.heap[k]? = w.heap[k]? := h.block k hk

end Go.Proofs.Ytfgefifplmhopaa
namespace Go.Proofs.Ytfgefifplmhopaa
open Go.RowKit

/-- The number of n digits of 16 bits. -/
def vd (d : Nat → Nat) : Nat → Nat
  | 0 => 0
  | n + 1 => vd d n + 65536 ^ n * d n
theorem vd_congr {d e : Nat → Nat} {n : Nat} (h : ∀ j, j < n → d j = e j) : vd d n = vd e n := by
  induction n with
  | zero => rfl
  | succ n ih => simp only [vd]; rw [ih (fun j hj => h j (by omega)), h n (by omega)]
theorem vd_lt {d : Nat → Nat} {n : Nat} (h : ∀ j, j < n → d j < 65536) : vd d n < 65536 ^ n := by
  induction n with
  | zero => simp [vd]
  | succ n ih =>
    have h1 := ih (fun j hj => h j (by omega))
    have h2 : 65536 ^ n * d n ≤ 65536 ^ n * 65535 := Nat.mul_le_mul_left _ (by have := h n (by omega); omega)
    simp only [vd]
    rw [Nat.pow_succ]
    omega
theorem vd_mod (X n : Nat) : vd (fun j => X / 65536 ^ j % 65536) n = X % 65536 ^ n := by
  induction n with
  | zero => simp [vd, Nat.mod_one]
  | succ n ih => simp only [vd]; rw [ih, Nat.pow_succ, Nat.mod_mul]
/-- Digits, and noughts behind them. -/
def pad (d : Nat → Nat) (n j : Nat) : Nat := if j < n then d j else 0
theorem vd_pad (d : Nat → Nat) (n k : Nat) (h : n ≤ k) : vd (pad d n) k = vd d n := by
  induction k with
  | zero =>
    obtain rfl : n = 0 := by omega
    rfl
  | succ k ih =>
    by_cases e : n = k + 1
    · subst e; exact vd_congr (fun j hj => by simp [pad, hj])
    · simp only [vd]
      rw [ih (by omega), show pad d n k = 0 by simp [pad]; omega]
      simp

/-- Digits as cells. -/
def dl (d : Nat → Nat) (n : Nat) : List Value := (List.range n).map fun j => .int .u64 (d j : Nat)
theorem dl_len (d : Nat → Nat) (n : Nat) : (dl d n).length = n := by simp [dl]
theorem dl_at (d : Nat → Nat) (n j : Nat) (h : j < n) : (dl d n)[j]? = some (.int .u64 (d j : Nat)) := by simp [dl, h]
/-- One digit more. -/
def upd (d : Nat → Nat) (k y j : Nat) : Nat := if j = k then y else d j
theorem dl_snoc (d : Nat → Nat) (k y : Nat) : dl d k ++ [.int .u64 (y : Nat)] = dl (upd d k y) (k + 1) := by
  unfold dl
  rw [List.range_succ, List.map_append]
  congr 1
  · apply List.map_congr_left
    intro j hj
    have : j < k := by simpa using hj
    simp [upd, show ¬ j = k by omega]
  · simp [upd]
theorem upd_lt {d : Nat → Nat} {k y : Nat} (h : ∀ j, j < k → d j < 65536) (hy : y < 65536) : ∀ j, j < k + 1 → upd d k y j < 65536 := fun j hj => by
  unfold upd
  by_cases e : j = k
  · simp [e, hy]
  · simp only [e, if_false]; exact h j (by omega)
theorem vd_upd (d : Nat → Nat) (k y : Nat) : vd (upd d k y) (k + 1) = vd d k + 65536 ^ k * y := by
  simp only [vd]
  rw [vd_congr (d := upd d k y) (e := d) (fun j hj => by simp [upd, show ¬ j = k by omega])]
  simp [upd]

/-- A slice of digits that lies in block b. -/
def Dg (w : World) (b n : Nat) (d : Nat → Nat) : Prop := b < w.heap.size ∧ ∀ j, j < n → w.cell? ⟨b, j, none⟩ = some (.int .u64 (d j : Nat))
theorem Dg.below {w w' : World} {b n : Nat} {d : Nat → Nat} (h : Dg w b n d) (hb : Below w.heap.size w w') : Dg w' b n d :=
  ⟨Nat.lt_of_lt_of_le h.1 hb.size, fun j hj => (hb.cell (p := ⟨b, j, none⟩) h.1).trans (h.2 j hj)⟩
/-- What a call that makes n digits leaves, their number V. -/
def MkDg (n V : Nat) (w : World) (e : Ending) (w' : World) : Prop :=
  ∃ (b cap : Nat) (d : Nat → Nat), e = .returned (.slice (some ⟨b, 0, none⟩) n cap) ∧ w.heap.size ≤ b ∧ Dg w' b n d ∧ (∀ j, j < n → d j < 65536) ∧ vd d n = V ∧ Below w.heap.size w w'

theorem info22 : (Try.prog.info? 22).map (fun i => (i.zero, i.size, i.bytes)) = some (some (.int .u64 0), 1, 8) := by kernel_rfl

/-- What a round that appends one digit leaves. -/
theorem push_rel {w wr w1 : World} {base : Nat} {v v' X : Value} {k y : Nat} {ns : Nat → Nat} (hown : wr.ownsRow base 22 1 v k (dl ns k)) (hb : Below base w wr) (hsz : base ≤ wr.heap.size)
    (hown' : w1.ownsRow base 22 1 v' (k + 1) (dl ns k ++ [.int .u64 (y : Nat)])) (hgrow : (wr.alloc (.cells #[X] 22)).grownBy w1 v.ownBlock) :
    w1.ownsRow base 22 1 v' (k + 1) (dl (upd ns k y) (k + 1)) ∧ Below base w w1 := by
  rw [dl_snoc] at hown'
  exact ⟨hown', (hb.alloc hsz _).grown hgrow (by simp; omega) (fun j hj => (hown.lt j hj).1)⟩

theorem made_of {w w' : World} {base : Nat} {v : Value} {n : Nat} {d : Nat → Nat} (hbs : w.heap.size ≤ base) (h : w'.ownsRow base 22 1 v n (dl d n)) (hn : 0 < n) (hd : ∀ j, j < n → d j < 65536) (hb : Below w.heap.size w w') : MkDg n (vd d n) w (.returned v) w' := by
  obtain ⟨hl, h1⟩ := h
  rcases h1 with ⟨-, h0⟩ | ⟨g, cap, cur, rfl, hg, hc, hnc, hm, hcs, ht⟩
  · omega
  · refine ⟨g, cap, d, rfl, Nat.le_trans hbs hg, ⟨(Array.getElem?_eq_some_iff.1 hc).1, fun j hj => ?_⟩, hd, rfl, hb⟩
    rw [cell_of_row _ _ _ _ _ _ hc, ← dl_at d n j hj, ← ht]
    simp only [Nat.mul_one, List.getElem?_take, hj, if_true]
    simp

theorem and_low16 (z : Nat) (h : z < 18446744073709551616) : bits .and .u64 z 65535 = ((z % 65536 : Nat) : Int) := by
  have := bits_and_u64_nat z 65535 h (by omega)
  rw [show z &&& 65535 = z % 65536 from Nat.and_two_pow_sub_one_eq_mod z 16] at this
  exact this

theorem dg_of (x k p s : Nat) (hp : k / 4 = p) (hs : 16 * (k % 4) = s) : pN x p / 2 ^ s % 65536 = x % 115792089237316195423570985008687907853269984665640564039457584007913129639936 / 65536 ^ k % 65536 := by
  subst hp hs
  unfold pN
  have e : 18446744073709551616 = 2 ^ (16 * (k % 4)) * 2 ^ (64 - 16 * (k % 4)) := by rw [← Nat.pow_add, show 16 * (k % 4) + (64 - 16 * (k % 4)) = 64 by omega]
  have e2 : (65536 : Nat) = 2 ^ 16 := by rfl
  rw [e, Nat.mod_mul_right_div_self, e2, Nat.mod_mod_of_dvd _ (Nat.pow_dvd_pow 2 (by omega)), Nat.div_div_eq_div_mul, ← Nat.pow_add, ← Nat.pow_mul, show 64 * (k / 4) + 16 * (k % 4) = 16 * k by omega]

set_option maxRecDepth 100000 in
set_option maxHeartbeats 1000000 in
theorem digits_walk (x a0 a1 a2 a3 : Nat) (hp : ∀ p, p < 4 → (#[Value.int .u64 a0, .int .u64 a1, .int .u64 a2, .int .u64 a3] : Array Value)[p]? = some (.int .u64 (pN x p : Nat))) (w : World) :
    Calls Try.prog 34 #[.agg #[.int .u64 a0, .int .u64 a1, .int .u64 a2, .int .u64 a3]] w (MkDg 16 (x % 115792089237316195423570985008687907853269984665640564039457584007913129639936) w) := by
  have HP := Lib.hid hp; clear hp
  obtain ⟨i0, hi, hz0, hz1, hz2⟩ := info_parts info22
  go_enter Try.func34, Try.ntmps34
  go_wp2
  go_loopw [3, 4] (fun v i wr => ∃ k : Nat, k ≤ 16 ∧ i = .int .i64 k ∧ Hid (wr.ownsRow (w.heap.size + 1) 22 1 v k (dl (fun j => x % 115792089237316195423570985008687907853269984665640564039457584007913129639936 / 65536 ^ j % 65536) k) ∧ Below (w.heap.size + 1) (w.alloc (.cells #[Value.int .u64 a0, .int .u64 a1, .int .u64 a2, .int .u64 a3] 24)) wr))
    (fun _ i _ => 16 - (intOf i).toNat)
  case atStart =>
    refine ⟨0, by omega, rfl, Lib.hid ⟨?_, by go_grown⟩⟩
    have h := World.ownsRow_made (base := w.heap.size + 1) (e := 22) (size := 1) (w.alloc (.cells #[Value.int .u64 a0, .int .u64 a1, .int .u64 a2, .int .u64 a3] 24)) #[] 0 (by simp) (by decide) (by simp)
    rw [World.size_alloc] at h
    exact h
  case round =>
    obtain ⟨k, hk, rfl, H⟩ := hrel
    have hk0 : (0 : Int) ≤ k := by omega
    have hk1 : (k : Int) ≤ 16 := by omega
    by_cases hlt : k < 16
    · obtain ⟨p, hp⟩ : ∃ p : Nat, (k : Int) / 4 = (p : Int) := ⟨k / 4, by omega⟩
      obtain ⟨s, hs⟩ : ∃ s : Nat, 16 * ((k : Int) % 4) = (s : Int) := ⟨16 * (k % 4), by omega⟩
      have hp0 : (0 : Int) ≤ p := by omega
      have hp1 : (p : Int) < 4 := by omega
      have hs0 : (0 : Int) ≤ s := by omega
      have hs1 : (s : Int) < 64 := by omega
      have ca : wr.cell? ⟨w.heap.size, p, none⟩ = some (.int .u64 (pN x p : Nat)) := (H.out.2.cell (p := ⟨w.heap.size, p, none⟩) (Nat.lt_succ_self _)).trans ((cell_of_row _ _ p _ _ _ (heap_alloc_new w _)).trans (HP.out p (by omega)))
      have hpl := pN_le x p
      have hv : bits .and .u64 (((pN x p : Nat) : Int) / 2 ^ s) 65535 = ((x % 115792089237316195423570985008687907853269984665640564039457584007913129639936 / 65536 ^ k % 65536 : Nat) : Int) := by
        rw [← dg_of x k p s (by omega) (by omega)]
        have h := and_low16 (pN x p / 2 ^ s) (Nat.lt_of_le_of_lt (Nat.div_le_self _ _) hpl)
        simpa using h
      have HV := Lib.hid hv; clear hv
      go_wp2_with (at_builtin; refine wpList_append_own _ rfl _ _ 50 rfl (w.heap.size + 1) 22 i0 (.int .u64 0) 1 8 Try.underlying50 hi hz0 hz1 hz2 rfl (by decide) _ _ _ rfl (H.out.1.alloc _) ⟨wr.heap.size, 0, none⟩ 1 1 [.int .u64 (bits .and .u64 (((pN x p : Nat) : Int) / 2 ^ s) 65535)] rfl rfl ?c1 ?c2 ?c3 ?c4 ?c5 ?_)
      case c1 => exact cell_one_new _ _ _
      case c2 => intro u hu; simp at hu; subst hu; rfl
      case c3 => unfold maxLen; omega
      case c4 => omega
      case c5 => have := H.out.2.size; simp at this; simp; omega
      intro v' w1 hown' hgrow _
      rw [HV.out] at hown'
      have HN := Lib.hid (push_rel H.out.1 H.out.2 (by have := H.out.2.size; simp at this; omega) hown' hgrow)
      clear hown' hgrow
      go_wp2
      go_roundw
      case rel =>
        refine ⟨k + 1, by omega, by go_num, Lib.hid ⟨?_, HN.out.2⟩⟩
        have e : dl (upd (fun j => x % 115792089237316195423570985008687907853269984665640564039457584007913129639936 / 65536 ^ j % 65536) k (x % 115792089237316195423570985008687907853269984665640564039457584007913129639936 / 65536 ^ k % 65536)) (k + 1) = dl (fun j => x % 115792089237316195423570985008687907853269984665640564039457584007913129639936 / 65536 ^ j % 65536) (k + 1) := by
          unfold dl; apply List.map_congr_left; intro j _; unfold upd; by_cases h : j = k <;> simp [h]
        rw [← e]; exact HN.out.1
      case measure => simp [intOf]; omega
    · obtain rfl : k = 16 := by omega
      go_wp2
      go_ret
      have R := made_of (w := w) (by omega) H.out.1 (by omega) (fun j _ => by omega) (Below.trans (by go_grown) (H.out.2.mono (by omega)))
      rw [vd_mod] at R
      rw [show x % 115792089237316195423570985008687907853269984665640564039457584007913129639936 % 65536 ^ 16 = x % 115792089237316195423570985008687907853269984665640564039457584007913129639936 from Nat.mod_mod _ _] at R
      exact R

-- WHAT Digits COMES TO.
theorem digits_any (x : Nat) (w : World) : Calls Try.prog 34 #[wv x] w (MkDg 16 (x % 115792089237316195423570985008687907853269984665640564039457584007913129639936) w) := by
  refine digits_walk x _ _ _ _ (fun p hp => ?_) w
  have h : p = 0 ∨ p = 1 ∨ p = 2 ∨ p = 3 := by omega
  rcases h with rfl | rfl | rfl | rfl
  · simp [pN]
  · simp [pN]; omega
  · simp [pN]; omega
  · simp [pN]; omega
end Go.Proofs.Ytfgefifplmhopaa
namespace Go.Proofs.Ytfgefifplmhopaa
open Go.RowKit

/-- One round's reckoning. -/
theorem sum_step {P x c N A B : Nat} (h : N + P * c = A + B) (ak bk : Nat) (hx : x = c + ak + bk) : N + P * (x % 65536) + P * 65536 * (x / 65536) = (A + P * ak) + (B + P * bk) := by
  have e : x = x % 65536 + 65536 * (x / 65536) := by omega
  have e1 : P * x = P * (x % 65536) + P * 65536 * (x / 65536) := by
    rw [Nat.mul_assoc, ← Nat.mul_add, ← e]
  have e2 : P * x = P * c + P * ak + P * bk := by rw [hx, Nat.mul_add, Nat.mul_add]
  omega

/-- What the loop of Sum keeps. -/
def SumRel (w : World) (n m k c : Nat) (da db : Nat → Nat) (v : Value) (wr : World) : Prop :=
  c ≤ 1 ∧ ∃ ns : Nat → Nat, wr.ownsRow w.heap.size 22 1 v k (dl ns k) ∧ (∀ j, j < k → ns j < 65536) ∧ vd ns k + 65536 ^ k * c = vd (pad da n) k + vd (pad db m) k ∧ Below w.heap.size w wr ∧ w.heap.size < wr.heap.size

theorem sum_next {w wr w1 : World} {n m k c x : Nat} {da db ns : Nat → Nat} {v v' X : Value} (hc : c ≤ 1) (hown : wr.ownsRow w.heap.size 22 1 v k (dl ns k)) (hns : ∀ j, j < k → ns j < 65536)
    (hv : vd ns k + 65536 ^ k * c = vd (pad da n) k + vd (pad db m) k) (hb : Below w.heap.size w wr) (hz : w.heap.size < wr.heap.size) (hx : x = c + pad da n k + pad db m k) (ha : pad da n k < 65536) (hbd : pad db m k < 65536)
    (hown' : w1.ownsRow w.heap.size 22 1 v' (k + 1) (dl ns k ++ [.int .u64 ((x % 65536 : Nat) : Int)])) (hgrow : (wr.alloc (.cells #[X] 22)).grownBy w1 v.ownBlock) :
    SumRel w n m (k + 1) (x / 65536) da db v' w1 := by
  obtain ⟨ho, hb'⟩ := push_rel hown hb (by omega) hown' hgrow
  have hs := hgrow.size
  simp at hs
  refine ⟨by omega, upd ns k (x % 65536), ho, upd_lt hns (by omega), ?_, hb', by omega⟩
  rw [vd_upd, Nat.pow_succ]
  exact sum_step hv _ _ hx

set_option maxRecDepth 100000 in
set_option maxHeartbeats 4000000 in
theorem sum_any (ba ca bb cb n m : Nat) (da db : Nat → Nat) (hn : (n : Int) ≤ 1000000) (hm : (m : Int) ≤ 1000000) (ha : ∀ j, j < n → da j < 65536) (hb : ∀ j, j < m → db j < 65536) (w : World) (hA : Dg w ba n da) (hB : Dg w bb m db) :
    Calls Try.prog 33 #[.slice (some ⟨ba, 0, none⟩) n ca, .slice (some ⟨bb, 0, none⟩) m cb] w (MkDg (max n m + 1) (vd da n + vd db m) w) := by
  have Ha := Lib.hid ha; clear ha
  have Hb := Lib.hid hb; clear hb
  have HA := Lib.hid hA; clear hA
  have HB := Lib.hid hB; clear hB
  obtain ⟨i0, hi, hz0, hz1, hz2⟩ := info_parts info22
  go_enter Try.func33, Try.ntmps33
  go_wp2
  go_loopw [5, 6, 7] (fun v cv i wr => ∃ k c : Nat, k ≤ max n m ∧ i = .int .i64 k ∧ cv = .int .u64 c ∧ Hid (SumRel w n m k c da db v wr)) (fun _ _ i _ => max n m - (intOf i).toNat)
  case atStart =>
    refine ⟨0, 0, by omega, rfl, rfl, Lib.hid ⟨by omega, da, ?_, by omega, rfl, by go_grown, by simp⟩⟩
    exact World.ownsRow_made (base := w.heap.size) (e := 22) (size := 1) w #[] 0 (by simp) (by decide) (by simp)
  case round =>
    obtain ⟨k, c, hk, rfl, rfl, H⟩ := hrel
    have hk0 : (0 : Int) ≤ k := by omega
    have hk1 : (k : Int) ≤ 1000000 := by omega
    obtain ⟨hc, ns, hown, hns, hval, hbel, hsz⟩ := H.out
    have hc0 : (0 : Int) ≤ c := by omega
    have hc1 : (c : Int) ≤ 1 := by omega
    have HO := Lib.hid hown; clear hown
    have HNS := Lib.hid hns; clear hns
    have HVAL := Lib.hid hval; clear hval
    have HBEL := Lib.hid hbel; clear hbel
    have HSZ := Lib.hid hsz; clear hsz
    have HC := Lib.hid hc; clear hc H
    by_cases h1 : k < n
    · by_cases h2 : k < m
      · have xa : ((da k : Nat) : Int) ≤ 65535 := by have := Ha.out k (by omega); omega
        have xa0 : (0 : Int) ≤ (da k : Nat) := by omega
        have ea : wr.cell? ⟨ba, k, none⟩ = some (.int .u64 (da k : Nat)) := (HBEL.out.cell (p := ⟨ba, k, none⟩) HA.out.1).trans (HA.out.2 k (by omega))
        have hka : (k : Int) < (n : Int) := by omega
        have xb : ((db k : Nat) : Int) ≤ 65535 := by have := Hb.out k (by omega); omega
        have xb0 : (0 : Int) ≤ (db k : Nat) := by omega
        have eb : wr.cell? ⟨bb, k, none⟩ = some (.int .u64 (db k : Nat)) := (HBEL.out.cell (p := ⟨bb, k, none⟩) HB.out.1).trans (HB.out.2 k (by omega))
        have hkb : (k : Int) < (m : Int) := by omega
        obtain ⟨x, hx⟩ : ∃ x : Nat, c + da k + db k = x := ⟨_, rfl⟩
        have hxi : (c : Int) + (da k : Nat) + (db k : Nat) = (x : Int) := by omega
        have hxb : x < 200000 := by have := HC.out; omega
        have hand : bits .and .u64 (x : Int) 65535 = ((x % 65536 : Nat) : Int) := and_low16 x (by omega)
        have hxl : (x : Int) < 200000 := by omega
        have hx0 : (0 : Int) ≤ x := by omega
        have HAND := Lib.hid hand; clear hand
        have HX := Lib.hid hx; clear hx
        go_wp2_with (at_builtin; refine wpList_append_own _ rfl (.tmp 43) (.tmp 46) 50 rfl w.heap.size 22 i0 (.int .u64 0) 1 8 Try.underlying50 hi hz0 hz1 hz2 rfl (by decide) _ _ _ rfl (HO.out.alloc _) ⟨wr.heap.size, 0, none⟩ 1 1 [.int .u64 (bits .and .u64 (x : Int) 65535)] rfl rfl ?d111 ?d112 ?d113 ?d114 ?d115 ?_)
        try (case d111 => exact cell_one_new _ _ _)
        try (case d112 => first | rfl | (intro u hu; simp at hu; subst hu; rfl))
        try (case d113 => unfold maxLen; omega)
        try (case d114 => omega)
        try (case d115 => have := HSZ.out; first | omega | (simp; omega))
        intro v' w1 hown' hgrow _
        rw [HAND.out] at hown'
        have ea' : pad da n k = da k := by simp only [pad]; rw [if_pos (by omega)]
        have eb' : pad db m k = db k := by simp only [pad]; rw [if_pos (by omega)]
        have HN := Lib.hid (sum_next (x := x) (da := da) (db := db) (n := n) (m := m) HC.out HO.out HNS.out HVAL.out HBEL.out HSZ.out (by rw [ea', eb']; have := HX.out; omega) (by rw [ea']; omega) (by rw [eb']; omega) hown' hgrow)
        clear hown' hgrow ea' eb'
        go_wp2
        go_roundw
        case rel => exact ⟨k + 1, x / 65536, by omega, by go_num, by go_num, HN⟩
        case measure => simp [intOf]; omega
      · have xa : ((da k : Nat) : Int) ≤ 65535 := by have := Ha.out k (by omega); omega
        have xa0 : (0 : Int) ≤ (da k : Nat) := by omega
        have ea : wr.cell? ⟨ba, k, none⟩ = some (.int .u64 (da k : Nat)) := (HBEL.out.cell (p := ⟨ba, k, none⟩) HA.out.1).trans (HA.out.2 k (by omega))
        have hka : (k : Int) < (n : Int) := by omega
        have hkb : ¬ (k : Int) < (m : Int) := by omega
        obtain ⟨x, hx⟩ : ∃ x : Nat, c + da k = x := ⟨_, rfl⟩
        have hxi : (c : Int) + (da k : Nat) = (x : Int) := by omega
        have hxb : x < 200000 := by have := HC.out; omega
        have hand : bits .and .u64 (x : Int) 65535 = ((x % 65536 : Nat) : Int) := and_low16 x (by omega)
        have hxl : (x : Int) < 200000 := by omega
        have hx0 : (0 : Int) ≤ x := by omega
        have HAND := Lib.hid hand; clear hand
        have HX := Lib.hid hx; clear hx
        go_wp2_with (at_builtin; refine wpList_append_own _ rfl (.tmp 43) (.tmp 46) 50 rfl w.heap.size 22 i0 (.int .u64 0) 1 8 Try.underlying50 hi hz0 hz1 hz2 rfl (by decide) _ _ _ rfl (HO.out.alloc _) ⟨wr.heap.size, 0, none⟩ 1 1 [.int .u64 (bits .and .u64 (x : Int) 65535)] rfl rfl ?d101 ?d102 ?d103 ?d104 ?d105 ?_)
        try (case d101 => exact cell_one_new _ _ _)
        try (case d102 => first | rfl | (intro u hu; simp at hu; subst hu; rfl))
        try (case d103 => unfold maxLen; omega)
        try (case d104 => omega)
        try (case d105 => have := HSZ.out; first | omega | (simp; omega))
        intro v' w1 hown' hgrow _
        rw [HAND.out] at hown'
        have ea' : pad da n k = da k := by simp only [pad]; rw [if_pos (by omega)]
        have eb' : pad db m k = 0 := by simp only [pad]; rw [if_neg (by omega)]
        have HN := Lib.hid (sum_next (x := x) (da := da) (db := db) (n := n) (m := m) HC.out HO.out HNS.out HVAL.out HBEL.out HSZ.out (by rw [ea', eb']; have := HX.out; omega) (by rw [ea']; omega) (by rw [eb']; omega) hown' hgrow)
        clear hown' hgrow ea' eb'
        go_wp2
        go_roundw
        case rel => exact ⟨k + 1, x / 65536, by omega, by go_num, by go_num, HN⟩
        case measure => simp [intOf]; omega
    · by_cases h2 : k < m
      · have hka : ¬ (k : Int) < (n : Int) := by omega
        have xb : ((db k : Nat) : Int) ≤ 65535 := by have := Hb.out k (by omega); omega
        have xb0 : (0 : Int) ≤ (db k : Nat) := by omega
        have eb : wr.cell? ⟨bb, k, none⟩ = some (.int .u64 (db k : Nat)) := (HBEL.out.cell (p := ⟨bb, k, none⟩) HB.out.1).trans (HB.out.2 k (by omega))
        have hkb : (k : Int) < (m : Int) := by omega
        obtain ⟨x, hx⟩ : ∃ x : Nat, c + db k = x := ⟨_, rfl⟩
        have hxi : (c : Int) + (db k : Nat) = (x : Int) := by omega
        have hxb : x < 200000 := by have := HC.out; omega
        have hand : bits .and .u64 (x : Int) 65535 = ((x % 65536 : Nat) : Int) := and_low16 x (by omega)
        have hxl : (x : Int) < 200000 := by omega
        have hx0 : (0 : Int) ≤ x := by omega
        have HAND := Lib.hid hand; clear hand
        have HX := Lib.hid hx; clear hx
        go_wp2_with (at_builtin; refine wpList_append_own _ rfl (.tmp 43) (.tmp 46) 50 rfl w.heap.size 22 i0 (.int .u64 0) 1 8 Try.underlying50 hi hz0 hz1 hz2 rfl (by decide) _ _ _ rfl (HO.out.alloc _) ⟨wr.heap.size, 0, none⟩ 1 1 [.int .u64 (bits .and .u64 (x : Int) 65535)] rfl rfl ?d011 ?d012 ?d013 ?d014 ?d015 ?_)
        try (case d011 => exact cell_one_new _ _ _)
        try (case d012 => first | rfl | (intro u hu; simp at hu; subst hu; rfl))
        try (case d013 => unfold maxLen; omega)
        try (case d014 => omega)
        try (case d015 => have := HSZ.out; first | omega | (simp; omega))
        intro v' w1 hown' hgrow _
        rw [HAND.out] at hown'
        have ea' : pad da n k = 0 := by simp only [pad]; rw [if_neg (by omega)]
        have eb' : pad db m k = db k := by simp only [pad]; rw [if_pos (by omega)]
        have HN := Lib.hid (sum_next (x := x) (da := da) (db := db) (n := n) (m := m) HC.out HO.out HNS.out HVAL.out HBEL.out HSZ.out (by rw [ea', eb']; have := HX.out; omega) (by rw [ea']; omega) (by rw [eb']; omega) hown' hgrow)
        clear hown' hgrow ea' eb'
        go_wp2
        go_roundw
        case rel => exact ⟨k + 1, x / 65536, by omega, by go_num, by go_num, HN⟩
        case measure => simp [intOf]; omega
      · have hka : ¬ (k : Int) < (n : Int) := by omega
        have hkb : ¬ (k : Int) < (m : Int) := by omega
        go_wp2_with (at_builtin; refine wpList_append_own _ rfl (.tmp 50) (.tmp 52) 50 rfl w.heap.size 22 i0 (.int .u64 0) 1 8 Try.underlying50 hi hz0 hz1 hz2 rfl (by decide) _ _ _ rfl (HO.out.alloc _) ⟨wr.heap.size, 0, none⟩ 1 1 [.int .u64 (c : Int)] rfl rfl ?e1 ?e2 ?e3 ?e4 ?e5 ?_)
        try (case e1 => exact cell_one_new _ _ _)
        try (case e2 => first | rfl | (intro u hu; simp at hu; subst hu; rfl))
        try (case e3 => unfold maxLen; omega)
        try (case e4 => omega)
        try (case e5 => have := HSZ.out; first | omega | (simp; omega))
        intro v' w1 hown' hgrow _
        obtain rfl : k = max n m := by omega
        obtain ⟨ho, hb'⟩ := push_rel HO.out HBEL.out (by have := HSZ.out; omega) hown' hgrow
        have R := made_of (Nat.le_refl _) ho (by omega) (upd_lt HNS.out (by have := HC.out; omega)) hb'
        rw [vd_upd, HVAL.out, vd_pad _ _ _ (by omega), vd_pad _ _ _ (by omega)] at R
        have HR := Lib.hid R
        clear hown' hgrow ho hb' R
        go_wp2
        go_ret
        exact HR.out
end Go.Proofs.Ytfgefifplmhopaa
namespace Go.Proofs.Ytfgefifplmhopaa
open Go.RowKit

theorem pow_split {s t : Nat} (h : s + t = 64) : 2 ^ s * 2 ^ t = 18446744073709551616 := by rw [← Nat.pow_add, h]

/-- A part shifted up beside what came out of the part below it. -/
theorem cmb_up {p q s t : Nat} (hq : q < 18446744073709551616) (h : s + t = 64) :
    bits .or .u64 (IntKind.u64.wrap ((p : Int) * 2 ^ s)) ((q : Int) / 2 ^ t) = ((p * 2 ^ s % 18446744073709551616 + q / 2 ^ t : Nat) : Int) := by
  have hD := pow_split h
  have hT : 0 < 2 ^ t := Nat.two_pow_pos t
  have hqs : q / 2 ^ t < 2 ^ s := by rw [Nat.div_lt_iff_lt_mul hT, hD]; exact hq
  have e1 : IntKind.u64.wrap ((p : Int) * 2 ^ s) = ((p * 2 ^ s % 18446744073709551616 : Nat) : Int) := by
    rw [IntKind.wrap_u64]
    have : ((p : Int) * 2 ^ s) = ((p * 2 ^ s : Nat) : Int) := by simp
    rw [this]; omega
  have e2 : ((q : Int) / 2 ^ t) = ((q / 2 ^ t : Nat) : Int) := by simp
  have e3 : p * 2 ^ s % 18446744073709551616 = 2 ^ s * (p % 2 ^ t) := by
    rw [← hD, Nat.mul_comm p, Nat.mul_mod_mul_left]
  have hl : p * 2 ^ s % 18446744073709551616 < 18446744073709551616 := Nat.mod_lt _ (by omega)
  have hr : q / 2 ^ t < 18446744073709551616 := Nat.lt_of_le_of_lt (Nat.div_le_self _ _) hq
  rw [e1, e2, bits_or_u64_nat _ _ hl hr, e3, ← Nat.two_pow_add_eq_or_of_lt hqs]

/-- A part shifted down beside what came out of the part above it. -/
theorem cmb_down {p q s t : Nat} (hp : p < 18446744073709551616) (h : s + t = 64) :
    bits .or .u64 ((p : Int) / 2 ^ s) (IntKind.u64.wrap ((q : Int) * 2 ^ t)) = ((p / 2 ^ s + q * 2 ^ t % 18446744073709551616 : Nat) : Int) := by
  have hD := pow_split h
  have hS : 0 < 2 ^ s := Nat.two_pow_pos s
  have hps : p / 2 ^ s < 2 ^ t := by rw [Nat.div_lt_iff_lt_mul hS, Nat.mul_comm, hD]; exact hp
  have e1 : IntKind.u64.wrap ((q : Int) * 2 ^ t) = ((q * 2 ^ t % 18446744073709551616 : Nat) : Int) := by
    rw [IntKind.wrap_u64]
    have : ((q : Int) * 2 ^ t) = ((q * 2 ^ t : Nat) : Int) := by simp
    rw [this]; omega
  have e2 : ((p : Int) / 2 ^ s) = ((p / 2 ^ s : Nat) : Int) := by simp
  have e3 : q * 2 ^ t % 18446744073709551616 = 2 ^ t * (q % 2 ^ s) := by
    rw [← hD, Nat.mul_comm (2 ^ s), Nat.mul_comm q, Nat.mul_mod_mul_left]
  have hl : q * 2 ^ t % 18446744073709551616 < 18446744073709551616 := Nat.mod_lt _ (by omega)
  have hr : p / 2 ^ s < 18446744073709551616 := Nat.lt_of_le_of_lt (Nat.div_le_self _ _) hp
  rw [e1, e2, bits_or_u64_nat _ _ hr hl, e3, Nat.or_comm, ← Nat.two_pow_add_eq_or_of_lt hps, Nat.add_comm]

/-- A part times 2^s: what stays, and what goes over. -/
theorem up_split {p s t : Nat} (h : s + t = 64) : p * 2 ^ s = p * 2 ^ s % 18446744073709551616 + 18446744073709551616 * (p / 2 ^ t) := by
  have hD := pow_split h
  have hS : 0 < 2 ^ s := Nat.two_pow_pos s
  have e : p * 2 ^ s / 18446744073709551616 = p / 2 ^ t := by
    rw [← hD, Nat.mul_comm p, Nat.mul_div_mul_left _ _ hS]
  have := Nat.div_add_mod (p * 2 ^ s) 18446744073709551616
  rw [e] at this
  omega

theorem cmb_lt {p q s t : Nat} (hq : q < 18446744073709551616) (h : s + t = 64) : p * 2 ^ s % 18446744073709551616 + q / 2 ^ t < 18446744073709551616 := by
  have hD := pow_split h
  have hT : 0 < 2 ^ t := Nat.two_pow_pos t
  have hqs : q / 2 ^ t < 2 ^ s := by rw [Nat.div_lt_iff_lt_mul hT, hD]; exact hq
  have e3 : p * 2 ^ s % 18446744073709551616 = 2 ^ s * (p % 2 ^ t) := by
    rw [← hD, Nat.mul_comm p, Nat.mul_mod_mul_left]
  have hm : p % 2 ^ t < 2 ^ t := Nat.mod_lt _ hT
  have : 2 ^ s * (p % 2 ^ t) + 2 ^ s ≤ 2 ^ s * 2 ^ t := by
    rw [← Nat.mul_succ]; exact Nat.mul_le_mul_left _ hm
  omega

theorem n4_up (p0 p1 p2 p3 : Nat) {s t : Nat} (h : s + t = 64) :
    n4 (p0 * 2 ^ s % 18446744073709551616 + 0 / 2 ^ t) (p1 * 2 ^ s % 18446744073709551616 + p0 / 2 ^ t) (p2 * 2 ^ s % 18446744073709551616 + p1 / 2 ^ t) (p3 * 2 ^ s % 18446744073709551616 + p2 / 2 ^ t)
      + 115792089237316195423570985008687907853269984665640564039457584007913129639936 * (p3 / 2 ^ t) = n4 p0 p1 p2 p3 * 2 ^ s := by
  have h0 := up_split (p := p0) h
  have h1 := up_split (p := p1) h
  have h2 := up_split (p := p2) h
  have h3 := up_split (p := p3) h
  have e : n4 p0 p1 p2 p3 * 2 ^ s = n4 (p0 * 2 ^ s) (p1 * 2 ^ s) (p2 * 2 ^ s) (p3 * 2 ^ s) := by unfold n4; grind
  rw [e, Nat.zero_div]
  unfold n4
  generalize p0 * 2 ^ s = c0 at *
  generalize p1 * 2 ^ s = c1 at *
  generalize p2 * 2 ^ s = c2 at *
  generalize p3 * 2 ^ s = c3 at *
  omega

/-- Down: the quotient by 2^s of four parts, with more parts above them. -/
theorem n4_down (p0 p1 p2 p3 p4 : Nat) {s t : Nat} (h : s + t = 64) :
    n4 (p0 / 2 ^ s + p1 * 2 ^ t % 18446744073709551616) (p1 / 2 ^ s + p2 * 2 ^ t % 18446744073709551616) (p2 / 2 ^ s + p3 * 2 ^ t % 18446744073709551616) (p3 / 2 ^ s + p4 * 2 ^ t % 18446744073709551616)
      = n4 p0 p1 p2 p3 / 2 ^ s + 6277101735386680763835789423207666416102355444464034512896 * (p4 * 2 ^ t % 18446744073709551616) := by
  have hD := pow_split h
  have hS : 0 < 2 ^ s := Nat.two_pow_pos s
  have h1 := up_split (p := p1) (s := t) (t := s) (by omega)
  have h2 := up_split (p := p2) (s := t) (t := s) (by omega)
  have h3 := up_split (p := p3) (s := t) (t := s) (by omega)
  -- the whole times 2^t, by parts
  have e : n4 p0 p1 p2 p3 = p0 + 2 ^ s * (p1 * 2 ^ t + 18446744073709551616 * (p2 * 2 ^ t) + 340282366920938463463374607431768211456 * (p3 * 2 ^ t)) := by
    unfold n4
    have : ∀ p, 18446744073709551616 * p = 2 ^ s * (p * 2 ^ t) := fun p => by rw [← hD]; grind
    have a1 := this p1
    have a2 := this (18446744073709551616 * p2)
    have a3 := this (340282366920938463463374607431768211456 * p3)
    have b2 : 18446744073709551616 * p2 * 2 ^ t = 18446744073709551616 * (p2 * 2 ^ t) := by grind
    have b3 : 340282366920938463463374607431768211456 * p3 * 2 ^ t = 340282366920938463463374607431768211456 * (p3 * 2 ^ t) := by grind
    rw [b2] at a2
    rw [b3] at a3
    rw [Nat.mul_add, Nat.mul_add, ← a1, ← a2, ← a3]
    omega
  rw [e, Nat.add_mul_div_left _ _ hS]
  unfold n4
  generalize p1 * 2 ^ t = c1 at *
  generalize p2 * 2 ^ t = c2 at *
  generalize p3 * 2 ^ t = c3 at *
  generalize p4 * 2 ^ t = c4 at *
  omega
end Go.Proofs.Ytfgefifplmhopaa
namespace Go.Proofs.Ytfgefifplmhopaa
open Go.RowKit

theorem part_neg (i : Int) (b : Nat) (h : i < 0) (w : World) : Calls Try.prog 85 #[.int .i64 i, .pointer (some ⟨b, 0, none⟩)] w fun e w' => e = .returned (.int .u64 0) ∧ w' = w := by
  go_enter Try.func85, Try.ntmps85
  go_wp2
  go_ret
  exact ⟨rfl, rfl⟩
theorem part_at (i b : Nat) (v : Value) (h0 : (0 : Int) ≤ i) (h : (i : Int) < 4) (w : World) (hc : w.cell? ⟨b, i, none⟩ = some v) : Calls Try.prog 85 #[.int .i64 i, .pointer (some ⟨b, 0, none⟩)] w fun e w' => e = .returned v ∧ w' = w := by
  go_enter Try.func85, Try.ntmps85
  go_wp2
  go_ret
  exact ⟨rfl, rfl⟩

/-- A region of reads and quiet calls ahead of one store: in the text's order, behind one draw. -/
theorem region_still {P : Program} {id : Nat} {Q : Exit → Act → World → Prop} {a : Act} {w : World} {l : List Oper} (n : Nat) (hm : P.follows .mixedOrders = true) (hB : Region.lexTailB .any l.toArray n = true)
    (h : wpStill P l.toArray w.drew (fun a' => wpList P l.toArray Q (l.drop n) a' w.drew) (l.take n) a) : (Code.region id l.toArray true).wp P Q a w := wp_region_still_tail n hm hB h

set_option maxRecDepth 100000 in
set_option maxHeartbeats 2000000 in
theorem shl_walk (k0 k1 k2 k3 a0 a1 a2 a3 pm p0 p1 p2 p3 s t : Nat) (wh jm j0 j1 j2 j3 : Int) (h0 : (0 : Int) ≤ s) (h64 : (s : Int) < 64)
    (ht : IntKind.i64.wrap (64 - (s : Int)) = (t : Int)) (ht64 : (t : Int) ≤ 64)
    (e0 : IntKind.i64.wrap (-wh) = j0) (e1 : IntKind.i64.wrap (1 - wh) = j1) (e2 : IntKind.i64.wrap (2 - wh) = j2) (e3 : IntKind.i64.wrap (3 - wh) = j3)
    (g0 : IntKind.i64.wrap (j0 - 1) = jm) (g1 : IntKind.i64.wrap (j1 - 1) = j0) (g2 : IntKind.i64.wrap (j2 - 1) = j1) (g3 : IntKind.i64.wrap (j3 - 1) = j2) (w : World)
    (hC : ∀ (b : Nat) (W : World), W.cell? ⟨b, 0, none⟩ = some (.int .u64 a0) → W.cell? ⟨b, 1, none⟩ = some (.int .u64 a1) → W.cell? ⟨b, 2, none⟩ = some (.int .u64 a2) → W.cell? ⟨b, 3, none⟩ = some (.int .u64 a3) →
      (Calls Try.prog 85 #[.int .i64 jm, .pointer (some ⟨b, 0, none⟩)] W fun e w' => e = .returned (.int .u64 pm) ∧ w' = W) ∧
      (Calls Try.prog 85 #[.int .i64 j0, .pointer (some ⟨b, 0, none⟩)] W fun e w' => e = .returned (.int .u64 p0) ∧ w' = W) ∧
      (Calls Try.prog 85 #[.int .i64 j1, .pointer (some ⟨b, 0, none⟩)] W fun e w' => e = .returned (.int .u64 p1) ∧ w' = W) ∧
      (Calls Try.prog 85 #[.int .i64 j2, .pointer (some ⟨b, 0, none⟩)] W fun e w' => e = .returned (.int .u64 p2) ∧ w' = W) ∧
      (Calls Try.prog 85 #[.int .i64 j3, .pointer (some ⟨b, 0, none⟩)] W fun e w' => e = .returned (.int .u64 p3) ∧ w' = W))
    (hS : ∀ w, Calls Try.prog 82 #[.agg #[.int .u64 k0, .int .u64 k1, .int .u64 k2, .int .u64 k3]] w fun e w' => e = .returned (.tuple #[.int .i64 wh, .int .i64 s]) ∧ Below w.heap.size w w') :
    Calls Try.prog 78 #[.agg #[.int .u64 k0, .int .u64 k1, .int .u64 k2, .int .u64 k3], .agg #[.int .u64 a0, .int .u64 a1, .int .u64 a2, .int .u64 a3]] w fun e w' => 
      e = .returned (.agg #[.int .u64 (bits .or .u64 (IntKind.u64.wrap ((p0 : Int) * 2 ^ s)) ((pm : Int) / 2 ^ t)), .int .u64 (bits .or .u64 (IntKind.u64.wrap ((p1 : Int) * 2 ^ s)) ((p0 : Int) / 2 ^ t)), .int .u64 (bits .or .u64 (IntKind.u64.wrap ((p2 : Int) * 2 ^ s)) ((p1 : Int) / 2 ^ t)), .int .u64 (bits .or .u64 (IntKind.u64.wrap ((p3 : Int) * 2 ^ s)) ((p2 : Int) / 2 ^ t))]) ∧ Below w.heap.size w w' := by
  have HC := Lib.hid hC; clear hC
  have G0 := Lib.hid g0; clear g0
  have G1 := Lib.hid g1; clear g1
  have G2 := Lib.hid g2; clear g2
  have G3 := Lib.hid g3; clear g3
  go_enter Try.func78, Try.ntmps78
  go_wp2_with fail
  refine (hS _).mono ?_
  rintro e w1 ⟨rfl, hb⟩
  obtain ⟨x0, -, -⟩ := after1 (b := w.heap.size + 1) (i := 0) (v := .int .u64 a0) hb (by simp) (by go_cell) (by go_cell)
  obtain ⟨x1, -, -⟩ := after1 (b := w.heap.size + 1) (i := 1) (v := .int .u64 a1) hb (by simp) (by go_cell) (by go_cell)
  obtain ⟨x2, -, -⟩ := after1 (b := w.heap.size + 1) (i := 2) (v := .int .u64 a2) hb (by simp) (by go_cell) (by go_cell)
  obtain ⟨x3, -, -⟩ := after1 (b := w.heap.size + 1) (i := 3) (v := .int .u64 a3) hb (by simp) (by go_cell) (by go_cell)
  obtain ⟨⟨q0, q1, q2, q3⟩, ⟨f0, f1, f2, f3⟩, hz, hb'⟩ := after4 (w := w) (B := w.heap.size) (w.heap.size + 1 + 1) hb (by go_grown) (by simp; omega) (by simp) (by go_cell) (by go_cell) (by go_cell) (by go_cell) (by go_cell) (by go_cell) (by go_cell) (by go_cell)
  clear hb
  have hz1 : w.heap.size + 1 < w1.heap.size := by omega
  go_wp2
  refine wp_loop_rounds 5 ?_
  rw [rounds_succ]; go_wp2
  refine region_still 19 (by kernel_rfl) (by kernel_rfl) ?_
  simp only [List.take_succ_cons, List.take_zero, List.drop_succ_cons, List.drop_zero]
  repeat still_step
  still_call (HC.out (w.heap.size + 1) _ (by go_cell) (by go_cell) (by go_cell) (by go_cell)).2.1
  have g := G0.out
  repeat still_step
  clear g
  still_call (HC.out (w.heap.size + 1) _ (by go_cell) (by go_cell) (by go_cell) (by go_cell)).1
  repeat still_step
  refine wpStill_nil ?_
  go_wp2
  rw [rounds_succ]; go_wp2
  refine region_still 19 (by kernel_rfl) (by kernel_rfl) ?_
  simp only [List.take_succ_cons, List.take_zero, List.drop_succ_cons, List.drop_zero]
  repeat still_step
  still_call (HC.out (w.heap.size + 1) _ (by go_cell) (by go_cell) (by go_cell) (by go_cell)).2.2.1
  have g := G1.out
  repeat still_step
  clear g
  still_call (HC.out (w.heap.size + 1) _ (by go_cell) (by go_cell) (by go_cell) (by go_cell)).2.1
  repeat still_step
  refine wpStill_nil ?_
  go_wp2
  rw [rounds_succ]; go_wp2
  refine region_still 19 (by kernel_rfl) (by kernel_rfl) ?_
  simp only [List.take_succ_cons, List.take_zero, List.drop_succ_cons, List.drop_zero]
  repeat still_step
  still_call (HC.out (w.heap.size + 1) _ (by go_cell) (by go_cell) (by go_cell) (by go_cell)).2.2.2.1
  have g := G2.out
  repeat still_step
  clear g
  still_call (HC.out (w.heap.size + 1) _ (by go_cell) (by go_cell) (by go_cell) (by go_cell)).2.2.1
  repeat still_step
  refine wpStill_nil ?_
  go_wp2
  rw [rounds_succ]; go_wp2
  refine region_still 19 (by kernel_rfl) (by kernel_rfl) ?_
  simp only [List.take_succ_cons, List.take_zero, List.drop_succ_cons, List.drop_zero]
  repeat still_step
  still_call (HC.out (w.heap.size + 1) _ (by go_cell) (by go_cell) (by go_cell) (by go_cell)).2.2.2.2
  have g := G3.out
  repeat still_step
  clear g
  still_call (HC.out (w.heap.size + 1) _ (by go_cell) (by go_cell) (by go_cell) (by go_cell)).2.2.2.1
  repeat still_step
  refine wpStill_nil ?_
  go_wp2
  rw [rounds_succ]; go_wp2
  refine bodyPost_ret (by simp [results, Try.results78, go_sem, hz, q0, q1, q2, q3]; try rfl) rfl ⟨rfl, ?_⟩
  go_grown

end Go.Proofs.Ytfgefifplmhopaa
namespace Go.Proofs.Ytfgefifplmhopaa
open Go.RowKit

/-- Part p of the word of the first k digits. -/
def wpt (d : Nat → Nat) (p : Nat) : Nat → Nat
  | 0 => 0
  | k + 1 => wpt d p k + if k / 4 = p then d k * 2 ^ (16 * (k % 4)) else 0
/-- How many of the first k digits lie in part p. -/
def mm (p k : Nat) : Nat := min 4 (k - 4 * p)
theorem wpt_lt {d : Nat → Nat} (p : Nat) : ∀ k, (∀ j, j < k → d j < 65536) → wpt d p k < 2 ^ (16 * mm p k)
  | 0, _ => by simp [wpt, Nat.two_pow_pos]
  | k + 1, h => by
    have ih := wpt_lt p k (fun j hj => h j (by omega))
    have hd := h k (by omega)
    unfold wpt
    by_cases e : k / 4 = p
    · rw [if_pos e]
      have m0 : mm p k = k % 4 := by unfold mm; omega
      have m1 : mm p (k + 1) = k % 4 + 1 := by unfold mm; omega
      rw [m0] at ih
      rw [m1, show 16 * (k % 4 + 1) = 16 * (k % 4) + 16 by omega, Nat.pow_add]
      have h2 : d k * 2 ^ (16 * (k % 4)) ≤ 65535 * 2 ^ (16 * (k % 4)) := Nat.mul_le_mul_right _ (by omega)
      have e16 : (2 : Nat) ^ 16 = 65536 := by rfl
      rw [e16]
      omega
    · rw [if_neg e, Nat.add_zero]
      exact Nat.lt_of_lt_of_le ih (Nat.pow_le_pow_right (by omega) (by unfold mm; omega))
theorem wpt_64 {d : Nat → Nat} (p k : Nat) (h : ∀ j, j < k → d j < 65536) : wpt d p k < 18446744073709551616 := by
  refine Nat.lt_of_lt_of_le (wpt_lt p k h) ?_
  have e : 18446744073709551616 = 2 ^ 64 := by rfl
  rw [e]
  exact Nat.pow_le_pow_right (by omega) (by unfold mm; omega)
theorem wlow {d : Nat → Nat} {k p s : Nat} (hp : k / 4 = p) (hs : 16 * (k % 4) = s) (h : ∀ j, j < k → d j < 65536) : wpt d p k < 2 ^ s := by
  have := wpt_lt (d := d) p k h
  rwa [show mm p k = k % 4 by unfold mm; omega, hs] at this
theorem wpt_n4 {d : Nat → Nat} : ∀ k, k ≤ 16 → n4 (wpt d 0 k) (wpt d 1 k) (wpt d 2 k) (wpt d 3 k) = vd d k
  | 0, _ => rfl
  | k + 1, h => by
    have ih := wpt_n4 (d := d) k (by omega)
    have e : 65536 ^ k * d k = 2 ^ (64 * (k / 4)) * (d k * 2 ^ (16 * (k % 4))) := by
      rw [show (65536 : Nat) = 2 ^ 16 by rfl, ← Nat.pow_mul, show 16 * k = 64 * (k / 4) + 16 * (k % 4) by omega, Nat.pow_add, Nat.mul_assoc, Nat.mul_comm (2 ^ (16 * (k % 4)))]
    simp only [wpt, vd]
    rw [e, ← ih]
    generalize d k * 2 ^ (16 * (k % 4)) = y
    have c : k / 4 = 0 ∨ k / 4 = 1 ∨ k / 4 = 2 ∨ k / 4 = 3 := by omega
    rcases c with c | c | c | c
    · rw [c, show (2 : Nat) ^ (64 * 0) = 1 by rfl]; simp only [n4]; simp; omega
    · rw [c, show (2 : Nat) ^ (64 * 1) = 18446744073709551616 by rfl]; simp only [n4]; simp; omega
    · rw [c, show (2 : Nat) ^ (64 * 2) = 340282366920938463463374607431768211456 by rfl]; simp only [n4]; simp; omega
    · rw [c, show (2 : Nat) ^ (64 * 3) = 6277101735386680763835789423207666416102355444464034512896 by rfl]; simp only [n4]; simp; omega
theorem wpt_all {d : Nat → Nat} {K : Nat} (hK : K ≤ 16) (h : ∀ j, j < K → d j < 65536) : wpt d 0 K < 18446744073709551616 ∧ wpt d 1 K < 18446744073709551616 ∧ wpt d 2 K < 18446744073709551616 ∧ wpt d 3 K < 18446744073709551616 ∧ n4 (wpt d 0 K) (wpt d 1 K) (wpt d 2 K) (wpt d 3 K) = vd d K :=
  ⟨wpt_64 _ _ h, wpt_64 _ _ h, wpt_64 _ _ h, wpt_64 _ _ h, wpt_n4 K hK⟩

theorem or_up (x y s : Nat) (hx : x < 2 ^ s) (hy : y < 65536) (hs : s ≤ 48) : bits .or .u64 (x : Int) (IntKind.u64.wrap ((y : Int) * 2 ^ s)) = ((x + y * 2 ^ s : Nat) : Int) := by
  have h1 : 2 ^ s ≤ 2 ^ 48 := Nat.pow_le_pow_right (by omega) hs
  have h2 : y * 2 ^ s ≤ 65535 * 2 ^ 48 := Nat.mul_le_mul (by omega) h1
  have h3 : y * 2 ^ s < 18446744073709551616 := by omega
  have e : IntKind.u64.wrap ((y : Int) * 2 ^ s) = ((y * 2 ^ s : Nat) : Int) := by
    rw [IntKind.wrap_u64]
    have e0 : (y : Int) * 2 ^ s = ((y * 2 ^ s : Nat) : Int) := by simp
    rw [e0]
    omega
  rw [e, bits_or_u64_nat x (y * 2 ^ s) (by omega) h3]
  have := Nat.two_pow_add_eq_or_of_lt hx y
  rw [Nat.or_comm, Nat.mul_comm y, ← this, Nat.add_comm]

def rw4 (d : Nat → Nat) (k : Nat) : Array Value := #[.int .u64 (wpt d 0 k : Nat), .int .u64 (wpt d 1 k : Nat), .int .u64 (wpt d 2 k : Nat), .int .u64 (wpt d 3 k : Nat)]
theorem rw4_at (d : Nat → Nat) (k p : Nat) (h : p < 4) : (rw4 d k)[p]? = some (.int .u64 (wpt d p k : Nat)) := by
  have c : p = 0 ∨ p = 1 ∨ p = 2 ∨ p = 3 := by omega
  rcases c with rfl | rfl | rfl | rfl <;> rfl
theorem rw4_one (d : Nat → Nat) (k : Nat) : (rw4 d k).all (·.oneCell') = true := by
  simp [rw4, Value.oneCell']
theorem rw4_set (d : Nat → Nat) (k p s : Nat) (hk : k < 16) (hp : k / 4 = p) (hs : 16 * (k % 4) = s) : (rw4 d k).setIfInBounds p (.int .u64 ((wpt d p k + d k * 2 ^ s : Nat) : Int)) = rw4 d (k + 1) := by
  have c : p = 0 ∨ p = 1 ∨ p = 2 ∨ p = 3 := by omega
  subst hs
  rcases c with rfl | rfl | rfl | rfl <;> simp [rw4, wpt, hp]
theorem rw4_wv (d : Nat → Nat) (K : Nat) (hK : K ≤ 16) (h : ∀ j, j < K → d j < 65536) : Value.agg (rw4 d K) = wv (vd d K) := by
  obtain ⟨h0, h1, h2, h3, e⟩ := wpt_all hK h
  rw [← e, wv_n4 h0 h1 h2 h3]
  rfl
theorem heap2 (w : World) (A B : Obj) : ((w.alloc A).alloc B).heap[w.heap.size]? = some A ∧ ((w.alloc A).alloc B).heap[w.heap.size + 1]? = some B := ⟨heap_alloc2_old _ _ _, heap_alloc2_new _ _ _⟩

set_option maxRecDepth 100000 in
set_option maxHeartbeats 2000000 in
theorem word_walk (b cp n : Nat) (d : Nat → Nat) (hn : (n : Int) ≤ 1000000) (hd : ∀ j, j < n → d j < 65536) (w : World) (hD : Dg w b n d) :
    Calls Try.prog 35 #[.slice (some ⟨b, 0, none⟩) n cp] w fun e w' => e = .returned (.agg (rw4 d (min 16 n))) ∧ Below w.heap.size w w' := by
  have HD := Lib.hid hd; clear hd
  have HDG := Lib.hid hD; clear hD
  go_enter Try.func35, Try.ntmps35
  go_wp2
  go_loopw [4] (fun i wr => ∃ k : Nat, k ≤ min 16 n ∧ i = .int .i64 k ∧ Hid (wr.heap[w.heap.size]? = some (.cells (rw4 d 0) 24 (0, 0)) ∧ wr.heap[w.heap.size + 1]? = some (.cells (rw4 d k) 24 (0, 0)) ∧ Below w.heap.size w wr)) (fun i _ => 16 - (intOf i).toNat)
  case atStart => exact ⟨0, by omega, rfl, Lib.hid ⟨(heap2 _ _ _).1, (heap2 _ _ _).2, by go_grown⟩⟩
  case round =>
    obtain ⟨k, hk, rfl, H⟩ := hrel
    have hk0 : (0 : Int) ≤ k := by omega
    have hk1 : (k : Int) ≤ 16 := by omega
    by_cases hlt : k < min 16 n
    · have h16 : (k : Int) < 16 := by omega
      have hkn : (k : Int) < (n : Int) := by omega
      obtain ⟨p, hp⟩ : ∃ p : Nat, (k : Int) / 4 = (p : Int) := ⟨k / 4, by omega⟩
      obtain ⟨s, hs⟩ : ∃ s : Nat, 16 * ((k : Int) % 4) = (s : Int) := ⟨16 * (k % 4), by omega⟩
      have hp0 : (0 : Int) ≤ p := by omega
      have hp1 : (p : Int) < 4 := by omega
      have hs0 : (0 : Int) ≤ s := by omega
      have hs1 : (s : Int) < 64 := by omega
      have cd : wr.cell? ⟨b, k, none⟩ = some (.int .u64 (d k : Nat)) := (H.out.2.2.cell (p := ⟨b, k, none⟩) HDG.out.1).trans (HDG.out.2 k (by omega))
      have ca : wr.cell? ⟨w.heap.size + 1, p, none⟩ = some (.int .u64 (wpt d p k : Nat)) := (cell_of_row wr _ p _ _ _ H.out.2.1).trans (rw4_at d k p (by omega))
      have cf : wr.frozen? ⟨w.heap.size + 1, p, none⟩ = false := frozen_of_row wr _ p _ _ H.out.2.1
      have hv := or_up (wpt d p k) (d k) s (wlow (by omega) (by omega) (fun j hj => HD.out j (by omega))) (HD.out k (by omega)) (by omega)
      have HV := Lib.hid hv; clear hv
      go_wp2
      refine region_quiet_tail 17 (fun w' => ∃ n, w' = wr.drewN n) (by kernel_rfl) (by kernel_rfl) ⟨1, rfl⟩ ?_
      simp only [List.take_succ_cons, List.take_zero, List.drop_succ_cons, List.drop_zero]
      repeat (go_big_quiet_step (fail))
      with_reducible refine wpQuiet_nil ?_
      rintro _ ⟨nq, rfl⟩
      go_wp2
      go_roundw
      case rel =>
        refine ⟨k + 1, by omega, by go_num, Lib.hid ⟨(heap_setCell_other (wr.drewN nq) _ _ _ (by simp)).trans H.out.1, ?_, (below_drewN H.out.2.2 nq).setCell (by simp) _⟩⟩
        rw [HV.out, heap_setCell_same (wr.drewN nq) _ _ _ _ _ H.out.2.1, rw4_set d k p s (by omega) (by omega) (by omega)]
      case measure => simp [intOf]; omega
    · obtain rfl : k = min 16 n := by omega
      have hi : (Try.prog.info? 24).map (·.size) = some 4 := by kernel_rfl
      have HI := Lib.hid hi; clear hi
      generalize hK : min 16 n = K at *
      by_cases h16 : K = 16
      · have hx : decide ((K : Int) < 16) = false := by rw [decide_eq_false_iff_not]; omega
        have HK := Lib.hid hK; clear hK h16
        go_wp2_with (first | (refine wpList_load_row rfl 24 _ rfl (w.heap.size + 1) rfl 24 _ (0, 0) _ H.out.2.1 Try.underlying24 rfl HI.out ?_) | (refine wpList_store_row rfl 24 _ _ rfl w.heap.size (rw4 d K) rfl rfl 24 (rw4 d 0) H.out.1 HI.out rfl (rw4_one _ _) ?_))
        refine bodyPost_ret (v := .agg (rw4 d K)) (results_cell_row (p := 2) rfl _ _ w.heap.size 24 _ (0, 0) _ rfl (setRow_heap _ _ _ _ _ _ H.out.1) Try.underlying24 rfl HI.out) rfl ⟨by rw [HK.out], below_setRow H.out.2.2 (Nat.le_refl _) _⟩
      · have hx : decide ((K : Int) < 16) = true := by rw [decide_eq_true_iff]; omega
        have hy : decide (K < n) = false := by rw [decide_eq_false_iff_not]; omega
        have HK := Lib.hid hK; clear hK h16
        go_wp2_with (first | (refine wpList_load_row rfl 24 _ rfl (w.heap.size + 1) rfl 24 _ (0, 0) _ H.out.2.1 Try.underlying24 rfl HI.out ?_) | (refine wpList_store_row rfl 24 _ _ rfl w.heap.size (rw4 d K) rfl rfl 24 (rw4 d 0) H.out.1 HI.out rfl (rw4_one _ _) ?_))
        refine bodyPost_ret (v := .agg (rw4 d K)) (results_cell_row (p := 2) rfl _ _ w.heap.size 24 _ (0, 0) _ rfl (setRow_heap _ _ _ _ _ _ H.out.1) Try.underlying24 rfl HI.out) rfl ⟨by rw [HK.out], below_setRow H.out.2.2 (Nat.le_refl _) _⟩

theorem vd_low (d : Nat → Nat) (n : Nat) : ∀ m, n ≤ m → vd d m % 65536 ^ n = vd d n % 65536 ^ n := by
  intro m hm
  induction m with
  | zero => obtain rfl : n = 0 := by omega
            rfl
  | succ m ih =>
    by_cases e : n = m + 1
    · rw [e]
    · simp only [vd]
      rw [← ih (by omega)]
      have : 65536 ^ m * d m = 65536 ^ n * (65536 ^ (m - n) * d m) := by rw [← Nat.mul_assoc, ← Nat.pow_add, show n + (m - n) = m by omega]
      rw [this, Nat.add_mul_mod_self_left]

-- WHAT Word COMES TO.
theorem word_any (b cp n : Nat) (d : Nat → Nat) (hn : (n : Int) ≤ 1000000) (hd : ∀ j, j < n → d j < 65536) (w : World) (hD : Dg w b n d) :
    Calls Try.prog 35 #[.slice (some ⟨b, 0, none⟩) n cp] w fun e w' => e = .returned (wv (vd d n)) ∧ Below w.heap.size w w' := by
  have h := word_walk b cp n d hn hd w hD
  rw [rw4_wv d (min 16 n) (by omega) (fun j hj => hd j (by omega))] at h
  by_cases h16 : n ≤ 16
  · rw [Nat.min_eq_right h16] at h
    exact h
  · rw [Nat.min_eq_left (by omega)] at h
    have e : wv (vd d 16) = wv (vd d n) := wv_congr (vd_low d 16 n (by omega)).symm
    rw [e] at h
    exact h
end Go.Proofs.Ytfgefifplmhopaa
namespace Go.Proofs.Ytfgefifplmhopaa
open Go.RowKit

/-- A block of L digits that may be written. -/
def OutAt (wr : World) (B L : Nat) (o : Nat → Nat) : Prop := B < wr.heap.size ∧ ∀ j, j < L → wr.cell? ⟨B, j, none⟩ = some (.int .u64 (o j : Nat)) ∧ wr.frozen? ⟨B, j, none⟩ = false
theorem OutAt.drewN {wr : World} {B L : Nat} {o : Nat → Nat} (h : OutAt wr B L o) (n : Nat) : OutAt (wr.drewN n) B L o := h
theorem OutAt.set {wr : World} {B L : Nat} {o : Nat → Nat} (h : OutAt wr B L o) (p y : Nat) (hp : p < L) : OutAt (wr.setCell ⟨B, p, none⟩ (.int .u64 (y : Nat))) B L (upd o p y) := by
  refine ⟨by simpa using h.1, fun j hj => ⟨?_, ?_⟩⟩
  · by_cases e : j = p
    · subst e
      rw [World.cell?_setCell_same _ _ _ (h.2 j hj).1]
      simp [upd]
    · rw [World.cell?_setCell_other _ _ _ _ (by intro e2; apply e; injection e2 with _ e3; exact e3.symm), (h.2 j hj).1]
      simp [upd, e]
  · rw [World.frozen?_setCell]; exact (h.2 j hj).2

/-- One digit in the place of another. -/
theorem vd_set (o : Nat → Nat) (p y : Nat) : ∀ L, p < L → vd (upd o p y) L + 65536 ^ p * o p = vd o L + 65536 ^ p * y
  | 0, h => by omega
  | L + 1, h => by
    simp only [vd]
    by_cases e : p = L
    · subst e
      rw [vd_congr (d := upd o p y) (e := o) (fun j hj => by simp [upd, show ¬ j = p by omega])]
      simp only [upd, if_true]
      omega
    · have := vd_set o p y L (by omega)
      rw [show upd o p y L = o L by simp [upd, show ¬ L = p by omega]]
      omega

/-- What the inner loop of Product keeps: the number of all digits, and what is carried. -/
def PRel (n m i j c : Nat) (da db o0 o : Nat → Nat) : Prop :=
  c < 65536 ∧ (∀ t, t < n + m → o t < 65536) ∧ (∀ t, i + m ≤ t → t < n + m → o t = 0) ∧ vd o (n + m) + 65536 ^ (i + j) * c = vd o0 (n + m) + 65536 ^ i * da i * vd db j
theorem prel_next {n m i j c x : Nat} {da db o0 o : Nat → Nat} (h : PRel n m i j c da db o0 o) (hi : i < n) (hj : j < m) (hx : x = o (i + j) + da i * db j + c) (ha : da i < 65536) (hb : db j < 65536) :
    PRel n m i (j + 1) (x / 65536) da db o0 (upd o (i + j) (x % 65536)) := by
  obtain ⟨hc, ho, hz, hv⟩ := h
  have hop := ho (i + j) (by omega)
  have hab : da i * db j ≤ 65535 * 65535 := Nat.mul_le_mul (by omega) (by omega)
  refine ⟨by omega, fun t ht => ?_, fun t h1 h2 => ?_, ?_⟩
  · unfold upd; split
    · omega
    · exact ho t ht
  · unfold upd; rw [if_neg (by omega)]; exact hz t h1 h2
  · have h1 := vd_set o (i + j) (x % 65536) (n + m) (by omega)
    have e : x = x % 65536 + 65536 * (x / 65536) := by omega
    have e1 : 65536 ^ (i + j) * x = 65536 ^ (i + j) * (x % 65536) + 65536 ^ (i + (j + 1)) * (x / 65536) := by
      rw [show i + (j + 1) = (i + j) + 1 by omega, Nat.pow_succ, Nat.mul_assoc, ← Nat.mul_add, ← e]
    have e2 : 65536 ^ (i + j) * x = 65536 ^ (i + j) * o (i + j) + 65536 ^ (i + j) * (da i * db j) + 65536 ^ (i + j) * c := by rw [hx, Nat.mul_add, Nat.mul_add]
    have e3 : 65536 ^ i * da i * vd db (j + 1) = 65536 ^ i * da i * vd db j + 65536 ^ (i + j) * (da i * db j) := by
      simp only [vd]
      rw [Nat.mul_add, Nat.pow_add]
      congr 1
      simp only [Nat.mul_assoc, Nat.mul_left_comm]
    rw [e3]
    omega
theorem prel_end {n m i c : Nat} {da db o0 o : Nat → Nat} (h : PRel n m i m c da db o0 o) (hi : i < n) (hv0 : vd o0 (n + m) = vd da i * vd db m) :
    (∀ t, t < n + m → upd o (i + m) c t < 65536) ∧ (∀ t, i + 1 + m ≤ t → t < n + m → upd o (i + m) c t = 0) ∧ vd (upd o (i + m) c) (n + m) = vd da (i + 1) * vd db m := by
  obtain ⟨hc, ho, hz, hv⟩ := h
  refine ⟨fun t ht => ?_, fun t h1 h2 => ?_, ?_⟩
  · unfold upd; split
    · exact hc
    · exact ho t ht
  · unfold upd; rw [if_neg (by omega)]; exact hz t (by omega) h2
  · have h1 := vd_set o (i + m) c (n + m) (by omega)
    rw [hz (i + m) (Nat.le_refl _) (by omega), Nat.mul_zero, Nat.add_zero] at h1
    rw [h1, hv, hv0]
    simp only [vd]
    rw [Nat.add_mul]

theorem madeCells_at (k j : Nat) (h : j < k) : (madeCells (Value.int .u64 0).cells (k * 1)).toList[j]? = some (.int .u64 ((0 : Nat) : Int)) := by
  simp [madeCells, Value.cells, h, Nat.mod_one]
theorem vd_nought (L : Nat) : vd (fun _ => 0) L = 0 := by
  induction L with
  | zero => rfl
  | succ L ih => simp [vd, ih]

set_option maxRecDepth 100000 in
set_option maxHeartbeats 4000000 in
theorem product_digits (ba ca bb cb n m : Nat) (da db : Nat → Nat) (hn : (n : Int) ≤ 1000000) (hm : (m : Int) ≤ 1000000) (ha : ∀ j, j < n → da j < 65536) (hb : ∀ j, j < m → db j < 65536) (w : World) (hA : Dg w ba n da) (hB : Dg w bb m db) :
    Calls Try.prog 42 #[.slice (some ⟨ba, 0, none⟩) n ca, .slice (some ⟨bb, 0, none⟩) m cb] w (MkDg (n + m) (vd da n * vd db m) w) := by
  have Ha := Lib.hid ha; clear ha
  have Hb := Lib.hid hb; clear hb
  have HA := Lib.hid hA; clear hA
  have HB := Lib.hid hB; clear hB
  have hn0 : (0 : Int) ≤ n := by omega
  have hm0 : (0 : Int) ≤ m := by omega
  obtain ⟨i0, hi, hz0, hz1, hz2⟩ := info_parts info22
  obtain ⟨L, hL⟩ : ∃ L : Nat, (n : Int) + (m : Int) = (L : Int) := ⟨n + m, by omega⟩
  have HL : Hid (n + m = L) := Lib.hid (by omega)
  have hLb : (L : Int) ≤ 2000000 := by omega
  go_enter Try.func42, Try.ntmps42
  go_wp2_with (at_make; refine wpList_make_full _ rfl _ _ 50 rfl w.heap.size 22 i0 (.int .u64 0) 1 Try.underlying50 hi hz0 hz1 .i64 .i64 _ _ L rfl rfl rfl rfl (by rw [hz2]; omega) (by unfold maxLen; omega) (Nat.le_refl _) ?_; intro w0 hown0 hgrow0)
  have hout : OutAt w0 w.heap.size L (fun _ => 0) := ⟨(hown0.lt _ rfl).2, fun j hj => ⟨(hown0.cellAt j (by omega)).trans (madeCells_at L j hj), hown0.frozenAt j⟩⟩
  have hbel : Below w.heap.size w w0 := (Below.refl _ _).grown hgrow0 (Nat.le_refl _) (fun k hk => by cases hk)
  have HW := Lib.hid (And.intro hout hbel)
  clear hout hbel hown0 hgrow0 hL
  go_wp2
  go_loopw [6] (fun iv wr => ∃ i : Nat, i ≤ n ∧ iv = .int .i64 i ∧ Hid (∃ o : Nat → Nat, OutAt wr w.heap.size L o ∧ Below w.heap.size w wr ∧ (∀ t, t < n + m → o t < 65536) ∧ (∀ t, i + m ≤ t → t < n + m → o t = 0) ∧ vd o (n + m) = vd da i * vd db m)) (fun iv _ => n - (intOf iv).toNat)
  case atStart => exact ⟨0, Nat.zero_le _, rfl, Lib.hid ⟨fun _ => 0, HW.out.1, HW.out.2, fun _ _ => (by show (0 : Nat) < 65536; omega), fun _ _ _ => rfl, by rw [vd_nought]; simp [vd]⟩⟩
  case round =>
    obtain ⟨i, hin, rfl, H⟩ := hrel
    have hi0 : (0 : Int) ≤ i := by omega
    have hi1 : (i : Int) ≤ 1000000 := by omega
    by_cases hlt : i < n
    · obtain ⟨o0, hO0, hB0, hd0, hz0', hv0⟩ := H.out
      have HV0 := Lib.hid hv0; clear hv0
      have HO0 := Lib.hid (And.intro hO0 (And.intro hB0 (And.intro hd0 hz0'))); clear hO0 hB0 hd0 hz0' H
      go_wp2
      go_loopw [7, 8] (fun cv jv wr2 => ∃ j c : Nat, j ≤ m ∧ jv = .int .i64 j ∧ cv = .int .u64 c ∧ Hid (∃ o : Nat → Nat, OutAt wr2 w.heap.size L o ∧ Below w.heap.size w wr2 ∧ PRel n m i j c da db o0 o)) (fun _ jv _ => m - (intOf jv).toNat)
      case atStart => exact ⟨0, 0, Nat.zero_le _, rfl, rfl, Lib.hid ⟨o0, HO0.out.1, HO0.out.2.1, by omega, HO0.out.2.2.1, HO0.out.2.2.2, by simp [vd]⟩⟩
      case round =>
        obtain ⟨j, c, hjm, rfl, rfl, H⟩ := hrel
        obtain ⟨o, hO, hBw, hP⟩ := H.out
        have hj0 : (0 : Int) ≤ j := by omega
        have hj1 : (j : Int) ≤ 1000000 := by omega
        have hc0 : (0 : Int) ≤ c := by omega
        have hc1 : (c : Int) < 65536 := by have := hP.1; omega
        by_cases hjl : j < m
        · obtain ⟨p, hp⟩ : ∃ p : Nat, (i : Int) + (j : Int) = (p : Int) := ⟨i + j, by omega⟩
          have HPI : Hid (i + j = p) := Lib.hid (by omega)
          have hp0 : (0 : Int) ≤ p := by omega
          have hpL : (p : Int) < (L : Int) := by have := HL.out; omega
          have hil : (i : Int) < (n : Int) := by omega
          have hjl' : (j : Int) < (m : Int) := by omega
          have co : wr.cell? ⟨w.heap.size, p, none⟩ = some (.int .u64 (o p : Nat)) := (hO.2 p (by omega)).1
          have fo : wr.frozen? ⟨w.heap.size, p, none⟩ = false := (hO.2 p (by omega)).2
          have cA : wr.cell? ⟨ba, i, none⟩ = some (.int .u64 (da i : Nat)) := (hBw.cell (p := ⟨ba, i, none⟩) HA.out.1).trans (HA.out.2 i hlt)
          have cB : wr.cell? ⟨bb, j, none⟩ = some (.int .u64 (db j : Nat)) := (hBw.cell (p := ⟨bb, j, none⟩) HB.out.1).trans (HB.out.2 j hjl)
          obtain ⟨q, hq⟩ : ∃ q : Nat, q = da i * db j := ⟨_, rfl⟩
          have hab : da i * db j ≤ 65535 * 65535 := Nat.mul_le_mul (by have := Ha.out i hlt; omega) (by have := Hb.out j hjl; omega)
          have hqb : q ≤ 4294836225 := by rw [hq]; exact hab
          have hqi : IntKind.u64.wrap (((da i : Nat) : Int) * ((db j : Nat) : Int)) = (q : Int) := by
            rw [IntKind.wrap_u64, hq]
            have e0 : ((da i : Nat) : Int) * ((db j : Nat) : Int) = ((da i * db j : Nat) : Int) := by simp
            rw [e0]; omega
          have hop : o p < 65536 := hP.2.1 p (by have := HL.out; omega)
          obtain ⟨x, hx⟩ : ∃ x : Nat, x = o p + q + c := ⟨_, rfl⟩
          have hxi : ((o p : Nat) : Int) + (q : Int) + (c : Int) = (x : Int) := by omega
          have hxb : x < 8589934592 := by omega
          have hand : bits .and .u64 (x : Int) 65535 = ((x % 65536 : Nat) : Int) := and_low16 x (by omega)
          have HN : Hid (PRel n m i (j + 1) (x / 65536) da db o0 (upd o p (x % 65536))) := Lib.hid (by
            have := prel_next (x := x) hP hlt hjl (by rw [HPI.out, hx, hq]) (Ha.out i hlt) (Hb.out j hjl)
            rwa [HPI.out] at this)
          have HAND := Lib.hid hand; clear hand
          have HOB := Lib.hid (And.intro hO hBw); clear hO hBw
          have HQ := Lib.hid hq; clear hq
          have HXX := Lib.hid hx; clear hx
          clear hP H hab
          have hq0 : (0 : Int) ≤ q := by omega
          have hq1 : (q : Int) ≤ 4294836225 := by omega
          have hx0 : (0 : Int) ≤ x := by omega
          have hx1 : (x : Int) < 8589934592 := by omega
          have ho0 : (0 : Int) ≤ (o p : Nat) := by omega
          have ho1 : ((o p : Nat) : Int) < 65536 := by omega
          clear hqb hxb hop
          go_wp2
          go_quiet (fail)
          go_wp2
          go_roundw
          case rel =>
            refine ⟨j + 1, x / 65536, by omega, by go_num, by go_num, Lib.hid ⟨upd o p (x % 65536), ?_, ?_, HN.out⟩⟩
            · rw [HAND.out]; exact (HOB.out.1.drewN nq).set p (x % 65536) (by omega)
            · exact (below_drewN HOB.out.2 nq).setCell (Nat.le_refl _) _
          case measure => simp [intOf]; omega
        · obtain rfl : j = m := by omega
          obtain ⟨p, hp⟩ : ∃ p : Nat, (i : Int) + (j : Int) = (p : Int) := ⟨i + j, by omega⟩
          have HPI : Hid (i + j = p) := Lib.hid (by omega)
          have hp0 : (0 : Int) ≤ p := by omega
          have hpL : (p : Int) < (L : Int) := by have := HL.out; omega
          have co : wr.cell? ⟨w.heap.size, p, none⟩ = some (.int .u64 (o p : Nat)) := (hO.2 p (by omega)).1
          have fo : wr.frozen? ⟨w.heap.size, p, none⟩ = false := (hO.2 p (by omega)).2
          have HN := Lib.hid (prel_end hP hlt HV0.out)
          have HOB := Lib.hid (And.intro hO hBw); clear hO hBw hP H
          go_wp2
          go_roundw
          case rel =>
            refine ⟨i + 1, by omega, by go_num, Lib.hid ⟨upd o p c, HOB.out.1.set p c (by omega), HOB.out.2.setCell (Nat.le_refl _) _, ?_, ?_, ?_⟩⟩
            · rw [← HPI.out]; exact HN.out.1
            · rw [← HPI.out]; exact HN.out.2.1
            · rw [← HPI.out]; exact HN.out.2.2
          case measure => simp [intOf]; omega
    · obtain rfl : i = n := by omega
      obtain ⟨o, hO, hBw, hd, -, hv⟩ := H.out
      go_wp2
      go_ret
      rw [HL.out] at hv hd ⊢
      exact ⟨w.heap.size, L, o, rfl, Nat.le_refl _, ⟨hO.1, fun j hj => (hO.2 j hj).1⟩, hd, hv, hBw⟩
end Go.Proofs.Ytfgefifplmhopaa

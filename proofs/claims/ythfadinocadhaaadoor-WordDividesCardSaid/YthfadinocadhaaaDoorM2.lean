/- What word.divide comes to for one part by a greater one that has its highest bit: nothing, and that part. (With it, merged: Parts · Take · Give · StepNum · Step · Eq · Small · Steps · ShiftNum · Shl · Shls · Down · Downs · Not · Raise · Widen · Tail · Divide.) -/
import Derived.Test.YthfadinocadhaaaDoorM1
import Derived.Deep.LoopGhost
import Derived.Lib.Hide
import Derived.Laws.Rows
import Derived.Deep.QuietTactic
import Derived.BigQuiet
import Derived.Laws.Bits64b
import Derived.StillTailTactics
import Derived.Laws.Bits64
import Derived.Laws.IdiomCopy
import Derived.Laws.CopyRow
import Derived.StillTail
import Derived.Deep.Quiet
import Derived.Deep.DeepCutAuto
namespace Go.Proofs.YthfadinocadhaaaDoor
open Go.RowKit

/-- How many of the first n parts there are without the noughts behind. -/
def np (xs : Nat → Nat) : Nat → Nat
  | 0 => 0
  | n + 1 => if xs n = 0 then np xs n else n + 1

set_option maxRecDepth 100000 in
set_option maxHeartbeats 400000 in
theorem parts_any (b o L cap : Nat) (xs : Nat → Nat) (hL : (L : Int) ≤ 1000000) (w : World)
    (hc : ∀ j, j < L → w.cell? ⟨b, o + j, none⟩ = some (.int .u64 (xs j))) :
    Calls Tryd.prog 94 #[.slice (some ⟨b, o, none⟩) L cap] w fun e w' => e = .returned (.int .i64 (np xs L : Nat)) ∧ w = w' := by
  have HC := Lib.hid hc; clear hc
  go_enter Tryd.func94, Tryd.ntmps94
  go_wp2
  go_loop [3] (fun n => ∃ k : Nat, k ≤ L ∧ n = .int .i64 k ∧ Hid (np xs k = np xs L)) (fun n => (intOf n).toNat)
  case atStart => exact ⟨L, Nat.le_refl _, rfl, Lib.hid rfl⟩
  case round =>
    obtain ⟨k, hk, rfl, hn⟩ := hrel
    have hk' : (k : Int) ≤ 1000000 := by omega
    rcases k with _ | j
    · go_wp2
      go_ret
      exact ⟨by rw [← hn.out]; rfl, rfl⟩
    · have hj : (0 : Int) ≤ j := by omega
      have hj' : (j : Int) ≤ 1000000 := by omega
      have c := HC.out j (by omega)
      by_cases hx : xs j = 0
      · have hr : np xs j = np xs L := by rw [← hn.out]; simp [np, hx]
        have HR := Lib.hid hr
        clear hr
        rw [hx] at c
        clear hn
        go_wp2
        go_round
        case rel => exact ⟨j, by omega, rfl, HR⟩
        case measure => simp [intOf]
      · have hr : j + 1 = np xs L := by rw [← hn.out]; simp [np, hx]
        have HR := Lib.hid hr
        clear hr hn
        have hx' : ((xs j : Int) == 0) = false := by simp [hx]
        go_wp2
        go_ret
        exact ⟨by rw [← HR.out]; simp, rfl⟩
end Go.Proofs.YthfadinocadhaaaDoor
namespace Go.Proofs.YthfadinocadhaaaDoor
open Go.RowKit

/-- The number of the first n parts. -/
def val (f : Nat → Nat) : Nat → Nat
  | 0 => 0
  | n + 1 => val f n + 18446744073709551616 ^ n * f n

theorem val_congr {f g : Nat → Nat} {n : Nat} (h : ∀ j, j < n → f j = g j) : val f n = val g n := by
  induction n with
  | zero => rfl
  | succ n ih => simp only [val]; rw [ih (fun j hj => h j (by omega)), h n (by omega)]

/-- Nothing has turned but cells of block S. -/
structure But (S : Nat) (w w' : World) : Prop where
  os : w'.os = w.os
  tape : w'.tape = w.tape
  output : w'.output = w.output
  size : w'.heap.size = w.heap.size
  block : ∀ k, k ≠ S → w'.heap[k]? = w.heap[k]?
  frozen : ∀ j, w'.frozen? ⟨S, j, none⟩ = w.frozen? ⟨S, j, none⟩

theorem But.refl (S : Nat) (w : World) : But S w w := ⟨rfl, rfl, rfl, rfl, fun _ _ => rfl, fun _ => rfl⟩
theorem But.set {S : Nat} {w w' : World} (h : But S w w') (j : Nat) (u : Value) : But S w (w'.setCell ⟨S, j, none⟩ u) :=
  ⟨h.os, h.tape, h.output, by simp [h.size], fun k hk => by rw [Below.heap_setCell _ _ _ _ hk]; exact h.block k hk, fun i => by rw [World.frozen?_setCell]; exact h.frozen i⟩
theorem But.trans {S : Nat} {w w' w'' : World} (h : But S w w') (h' : But S w' w'') : But S w w'' :=
  ⟨h'.os.trans h.os, h'.tape.trans h.tape, h'.output.trans h.output, h'.size.trans h.size, fun k hk => (h'.block k hk).trans (h.block k hk), fun j => (h'.frozen j).trans (h.frozen j)⟩
theorem But.cell {S : Nat} {w w' : World} (h : But S w w') {p : Addr} (hp : p.block ≠ S) : w'.cell? p = w.cell? p := World.cell?_of_block (w := w) (h.block p.block hp)
theorem But.below {S B : Nat} {w0 w w' : World} (h0 : Below B w0 w) (h : But S w w') (hB : B ≤ S) : Below B w0 w' :=
  h0.trans ⟨h.os, h.tape, h.output, by rw [h.size]; exact Nat.le_refl _, fun k hk => h.block k (by omega)⟩

/-- Cells o .. of block S hold the first k parts of ns; the others what they held. -/
def Holds (S o k : Nat) (ns : Nat → Nat) (w w' : World) : Prop := But S w w' ∧ ∀ j, w'.cell? ⟨S, j, none⟩ = if o ≤ j ∧ j < o + k then some (.int .u64 (ns (j - o) : Nat)) else w.cell? ⟨S, j, none⟩

theorem Holds.start (S o : Nat) (ns : Nat → Nat) (w : World) : Holds S o 0 ns w w := ⟨But.refl S w, fun j => by rw [if_neg (by omega)]⟩
theorem Holds.next {S o k : Nat} {ns : Nat → Nat} {w w' : World} (h : Holds S o k ns w w') (s : Nat) (hs : (w.cell? ⟨S, o + k, none⟩).isSome = true) :
    Holds S o (k + 1) (fun j => if j = k then s else ns j) w (w'.setCell ⟨S, o + k, none⟩ (.int .u64 s)) := by
  refine ⟨h.1.set _ _, fun j => ?_⟩
  by_cases hj : j = o + k
  · subst hj
    have h1 : (w'.cell? ⟨S, o + k, none⟩).isSome = true := by rw [h.2, if_neg (by omega)]; exact hs
    obtain ⟨v, hv⟩ := Option.isSome_iff_exists.1 h1
    rw [if_pos (by omega), World.cell?_setCell_same _ _ _ hv]
    simp
  · rw [World.cell?_setCell_other _ _ _ _ (by intro e; apply hj; injection e with _ e2; exact e2.symm)]
    rw [h.2 j]
    by_cases h1 : o ≤ j ∧ j < o + k
    · rw [if_pos h1, if_pos (by omega)]
      simp only []
      rw [if_neg (by omega)]
    · rw [if_neg h1, if_neg (by omega)]

/-- What word.takeTimes leaves: the rest's cells, and what is owed. -/
def TakePost (S o n part : Nat) (r d : Nat → Nat) (w : World) (e : Ending) (w' : World) : Prop :=
  ∃ (ns : Nat → Nat) (debt : Nat), e = .returned (.int .u64 debt) ∧ debt ≤ 1 ∧ (∀ j, j < n + 1 → ns j < 18446744073709551616) ∧
    val ns (n + 1) + part * val d n = val r (n + 1) + 18446744073709551616 ^ (n + 1) * debt ∧ Holds S o (n + 1) ns w w'

/-- One round's reckoning. -/
theorem take_step {P x rk t s c c' b b' m dk N R V : Nat} (h : N + V = R + P * (c + b)) (h1 : t + 18446744073709551616 * c' = m + c) (h2 : s + t + b = rk + 18446744073709551616 * b') (hm : m = dk * x) :
    N + P * s + (V + P * (dk * x)) = R + P * rk + P * 18446744073709551616 * (c' + b') := by
  subst hm
  have e1 : P * t + P * (18446744073709551616 * c') = P * (dk * x) + P * c := by rw [← Nat.mul_add, ← Nat.mul_add, h1]
  have e2 : P * s + P * t + P * b = P * rk + P * (18446744073709551616 * b') := by rw [← Nat.mul_add, ← Nat.mul_add, ← Nat.mul_add, h2]
  have e3 : P * 18446744073709551616 * (c' + b') = P * (18446744073709551616 * c') + P * (18446744073709551616 * b') := by grind
  have e4 : P * (c + b) = P * c + P * b := Nat.mul_add _ _ _
  omega

set_option maxRecDepth 100000 in
set_option maxHeartbeats 1000000 in
theorem take_any (S o capS D capD n part : Nat) (r d : Nat → Nat) (hn : (n : Int) ≤ 1000) (hr : ∀ j, j < n + 1 → r j < 18446744073709551616) (hd : ∀ j, j < n → d j < 18446744073709551616)
    (hp : part < 18446744073709551616) (hSD : D ≠ S) (w : World)
    (hs : ∀ j, j < n + 1 → w.cell? ⟨S, o + j, none⟩ = some (.int .u64 (r j))) (hf : ∀ j, j < n + 1 → w.frozen? ⟨S, o + j, none⟩ = false)
    (hc : ∀ j, j < n → w.cell? ⟨D, j, none⟩ = some (.int .u64 (d j))) :
    Calls Tryd.prog 108 #[.slice (some ⟨S, o, none⟩) ((n + 1 : Nat)) capS, .slice (some ⟨D, 0, none⟩) n capD, .int .u64 part] w (TakePost S o n part r d w) := by
  have HR := Lib.hid hr; clear hr
  have HD := Lib.hid hd; clear hd
  have HS := Lib.hid hs; clear hs
  have HF := Lib.hid hf; clear hf
  have HC := Lib.hid hc; clear hc
  have HN := Lib.hid hSD; clear hSD
  have HP := Lib.hid hp; clear hp
  go_enter Tryd.func108, Tryd.ntmps108
  go_wp2
  go_loopw [7, 8, 14] (fun c b i wr => ∃ (k cn bn : Nat) (ns : Nat → Nat), k ≤ n ∧ c = .int .u64 cn ∧ b = .int .u64 bn ∧ i = .int .i64 k ∧ Hid (cn < 18446744073709551616 ∧ bn ≤ 1 ∧ (∀ j, j < k → ns j < 18446744073709551616) ∧ val ns k + val d k * part = val r k + 18446744073709551616 ^ k * (cn + bn) ∧ Holds S o k ns w wr)) (fun _ _ i _ => n - (intOf i).toNat)
  case atStart => exact ⟨0, 0, 0, r, Nat.zero_le _, rfl, rfl, rfl, Lib.hid ⟨by omega, by omega, fun j hj => by omega, by simp [val], Holds.start S o r w⟩⟩
  case round =>
    obtain ⟨k, cn, bn, ns, hk, rfl, rfl, rfl, H⟩ := hrel
    have hk0 : (0 : Int) ≤ k := by omega
    have hk1 : (k : Int) ≤ 1000 := by omega
    by_cases hlt : k < n
    · obtain ⟨tn, c', lt, lc, et, hM⟩ := mulAdd_ex (d k) part 0 cn (HD.out k hlt) HP.out (by omega) H.out.1
      obtain ⟨sn, b', lb, ls, es, hSu⟩ := sub64_ex (r k) tn bn (HR.out k (by omega)) lt H.out.2.1
      have cd : wr.cell? ⟨D, k, none⟩ = some (.int .u64 (d k)) := by rw [H.out.2.2.2.2.1.cell (p := ⟨D, k, none⟩) HN.out]; exact HC.out k hlt
      have cs : wr.cell? ⟨S, o + k, none⟩ = some (.int .u64 (r k)) := by rw [H.out.2.2.2.2.2 (o + k), if_neg (by omega)]; exact HS.out k (by omega)
      have cf : wr.frozen? ⟨S, o + k, none⟩ = false := by rw [H.out.2.2.2.2.1.frozen]; exact HF.out k (by omega)
      have ET := Lib.hid et; clear et
      have ES := Lib.hid es; clear es
      have HM := Lib.hid hM; clear hM
      go_wp2_with fail
      refine (HM.out _).mono ?_
      rintro e w' ⟨rfl, rfl⟩
      go_wp2
      go_roundw
      case rel =>
        refine ⟨k + 1, c', b', fun j => if j = k then sn else ns j, by omega, rfl, rfl, by go_num, Lib.hid ⟨lc, lb, fun j hj => ?_, ?_, H.out.2.2.2.2.next sn (by rw [HS.out k (by omega)]; rfl)⟩⟩
        · by_cases h : j = k
          · simp only [h, if_true]; exact ls
          · simp only [h, if_false]; exact H.out.2.2.1 j (by omega)
        · have e1 : val (fun j => if j = k then sn else ns j) k = val ns k := val_congr (fun j hj => by simp only [show ¬ j = k by omega, if_false])
          simp only [val, e1, if_true]
          have hm : d k * part = d k * part := rfl
          have := take_step (P := 18446744073709551616 ^ k) (x := part) (dk := d k) (N := val ns k) (V := val d k * part) H.out.2.2.2.1 (by rw [ET.out]; omega) ES.out hm
          rw [Nat.pow_succ, Nat.add_mul, Nat.mul_assoc _ (d k) part]
          exact this
      case measure => simp [intOf]; omega
    · obtain rfl : k = n := by omega
      obtain ⟨s1, b1, lb1, ls1, es1, hS1⟩ := sub64_ex (r k) cn bn (HR.out k (by omega)) H.out.1 H.out.2.1
      have ES := Lib.hid es1; clear es1
      have cs : wr.cell? ⟨S, o + k, none⟩ = some (.int .u64 (r k)) := by rw [H.out.2.2.2.2.2 (o + k), if_neg (by omega)]; exact HS.out k (by omega)
      have cf : wr.frozen? ⟨S, o + k, none⟩ = false := by rw [H.out.2.2.2.2.1.frozen]; exact HF.out k (by omega)
      go_wp2
      go_ret
      refine ⟨fun j => if j = k then s1 else ns j, b1, rfl, lb1, fun j hj => ?_, ?_, H.out.2.2.2.2.next s1 (by rw [HS.out k (by omega)]; rfl)⟩
      · by_cases h : j = k
        · simp only [h, if_true]; exact ls1
        · simp only [h, if_false]; exact H.out.2.2.1 j (by omega)
      · have e1 : val (fun j => if j = k then s1 else ns j) k = val ns k := val_congr (fun j hj => by simp only [show ¬ j = k by omega, if_false])
        simp only [val, e1, if_true]
        have h0 := H.out.2.2.2.1
        have h1 := ES.out
        rw [Nat.mul_comm part, Nat.pow_succ, Nat.mul_assoc]
        have e2 : 18446744073709551616 ^ k * s1 + 18446744073709551616 ^ k * cn + 18446744073709551616 ^ k * bn = 18446744073709551616 ^ k * r k + 18446744073709551616 ^ k * (18446744073709551616 * b1) := by rw [← Nat.mul_add, ← Nat.mul_add, ← Nat.mul_add, h1]
        rw [Nat.mul_add] at h0
        omega
end Go.Proofs.YthfadinocadhaaaDoor
namespace Go.Proofs.YthfadinocadhaaaDoor
open Go.RowKit

/-- What word.giveBack leaves: the rest's cells, and what goes beyond. -/
def GivePost (S o n : Nat) (r d : Nat → Nat) (w : World) (e : Ending) (w' : World) : Prop :=
  ∃ (ns : Nat → Nat) (over : Nat), e = .returned (.int .u64 over) ∧ over ≤ 1 ∧ (∀ j, j < n + 1 → ns j < 18446744073709551616) ∧
    val ns (n + 1) + 18446744073709551616 ^ (n + 1) * over = val r (n + 1) + val d n ∧ Holds S o (n + 1) ns w w'

/-- One round's reckoning. -/
theorem give_step {P rk s c c' dk N R V : Nat} (h : N + P * c = R + V) (h1 : s + 18446744073709551616 * c' = rk + dk + c) :
    N + P * s + P * 18446744073709551616 * c' = R + P * rk + (V + P * dk) := by
  have e1 : P * s + P * (18446744073709551616 * c') = P * rk + P * dk + P * c := by rw [← Nat.mul_add, ← Nat.mul_add, ← Nat.mul_add, h1]
  rw [Nat.mul_assoc]
  omega

set_option maxRecDepth 100000 in
set_option maxHeartbeats 1000000 in
theorem give_any (S o capS D capD n : Nat) (r d : Nat → Nat) (hn : (n : Int) ≤ 1000) (hr : ∀ j, j < n + 1 → r j < 18446744073709551616) (hd : ∀ j, j < n → d j < 18446744073709551616)
    (hSD : D ≠ S) (w : World)
    (hs : ∀ j, j < n + 1 → w.cell? ⟨S, o + j, none⟩ = some (.int .u64 (r j))) (hf : ∀ j, j < n + 1 → w.frozen? ⟨S, o + j, none⟩ = false)
    (hc : ∀ j, j < n → w.cell? ⟨D, j, none⟩ = some (.int .u64 (d j))) :
    Calls Tryd.prog 109 #[.slice (some ⟨S, o, none⟩) ((n + 1 : Nat)) capS, .slice (some ⟨D, 0, none⟩) n capD] w (GivePost S o n r d w) := by
  have HR := Lib.hid hr; clear hr
  have HD := Lib.hid hd; clear hd
  have HS := Lib.hid hs; clear hs
  have HF := Lib.hid hf; clear hf
  have HC := Lib.hid hc; clear hc
  have HN := Lib.hid hSD; clear hSD
  go_enter Tryd.func109, Tryd.ntmps109
  go_wp2
  go_loopw [5, 10] (fun c i wr => ∃ (k cn : Nat) (ns : Nat → Nat), k ≤ n ∧ c = .int .u64 cn ∧ i = .int .i64 k ∧ Hid (cn ≤ 1 ∧ (∀ j, j < k → ns j < 18446744073709551616) ∧ val ns k + 18446744073709551616 ^ k * cn = val r k + val d k ∧ Holds S o k ns w wr)) (fun _ i _ => n - (intOf i).toNat)
  case atStart => exact ⟨0, 0, r, Nat.zero_le _, rfl, rfl, Lib.hid ⟨by omega, fun j hj => by omega, by simp [val], Holds.start S o r w⟩⟩
  case round =>
    obtain ⟨k, cn, ns, hk, rfl, rfl, H⟩ := hrel
    have hk0 : (0 : Int) ≤ k := by omega
    have hk1 : (k : Int) ≤ 1000 := by omega
    by_cases hlt : k < n
    · obtain ⟨sn, c', lc, ls, es, hSu⟩ := add64_ex (r k) (d k) cn (HR.out k (by omega)) (HD.out k hlt) H.out.1
      have cd : wr.cell? ⟨D, k, none⟩ = some (.int .u64 (d k)) := by rw [H.out.2.2.2.1.cell (p := ⟨D, k, none⟩) HN.out]; exact HC.out k hlt
      have cs : wr.cell? ⟨S, o + k, none⟩ = some (.int .u64 (r k)) := by rw [H.out.2.2.2.2 (o + k), if_neg (by omega)]; exact HS.out k (by omega)
      have cf : wr.frozen? ⟨S, o + k, none⟩ = false := by rw [H.out.2.2.2.1.frozen]; exact HF.out k (by omega)
      have ES := Lib.hid es; clear es
      go_wp2
      go_roundw
      case rel =>
        refine ⟨k + 1, c', fun j => if j = k then sn else ns j, by omega, rfl, by go_num, Lib.hid ⟨lc, fun j hj => ?_, ?_, H.out.2.2.2.next sn (by rw [HS.out k (by omega)]; rfl)⟩⟩
        · by_cases h : j = k
          · simp only [h, if_true]; exact ls
          · simp only [h, if_false]; exact H.out.2.1 j (by omega)
        · have e1 : val (fun j => if j = k then sn else ns j) k = val ns k := val_congr (fun j hj => by simp only [show ¬ j = k by omega, if_false])
          simp only [val, e1, if_true]
          rw [Nat.pow_succ]
          exact give_step H.out.2.2.1 ES.out
      case measure => simp [intOf]; omega
    · obtain rfl : k = n := by omega
      obtain ⟨s1, b1, lb1, ls1, es1, hS1⟩ := add64_ex (r k) 0 cn (HR.out k (by omega)) (by omega) H.out.1
      have hS2 : ∀ w, (callFunc 90 #[.int .u64 (r k), .int .u64 0, .int .u64 cn]).run Tryd.prog w = .ok (.value (.tuple #[.int .u64 s1, .int .u64 b1])) w := hS1
      clear hS1
      have ES := Lib.hid es1; clear es1
      have cs : wr.cell? ⟨S, o + k, none⟩ = some (.int .u64 (r k)) := by rw [H.out.2.2.2.2 (o + k), if_neg (by omega)]; exact HS.out k (by omega)
      have cf : wr.frozen? ⟨S, o + k, none⟩ = false := by rw [H.out.2.2.2.1.frozen]; exact HF.out k (by omega)
      go_wp2
      go_ret
      refine ⟨fun j => if j = k then s1 else ns j, b1, rfl, lb1, fun j hj => ?_, ?_, H.out.2.2.2.next s1 (by rw [HS.out k (by omega)]; rfl)⟩
      · by_cases h : j = k
        · simp only [h, if_true]; exact ls1
        · simp only [h, if_false]; exact H.out.2.1 j (by omega)
      · have e1 : val (fun j => if j = k then s1 else ns j) k = val ns k := val_congr (fun j hj => by simp only [show ¬ j = k by omega, if_false])
        simp only [val, e1, if_true]
        have h0 := give_step (P := 18446744073709551616 ^ k) (dk := 0) H.out.2.2.1 ES.out
        rw [Nat.pow_succ]
        omega
end Go.Proofs.YthfadinocadhaaaDoor
namespace Go.Proofs.YthfadinocadhaaaDoor
open Go.RowKit

theorem val_lt {f : Nat → Nat} {n : Nat} (h : ∀ j, j < n → f j < 18446744073709551616) : val f n < 18446744073709551616 ^ n := by
  induction n with
  | zero => simp [val]
  | succ n ih =>
    have h1 := ih (fun j hj => h j (by omega))
    have h2 := h n (by omega)
    have h3 : 18446744073709551616 ^ n * f n ≤ 18446744073709551616 ^ n * 18446744073709551615 := Nat.mul_le_mul_left _ (by omega)
    rw [val, Nat.pow_succ]
    omega

theorem val_ge (f : Nat → Nat) (n : Nat) : 18446744073709551616 ^ n * f n ≤ val f (n + 1) := by rw [val]; omega

/-- The guess by the two highest parts of the rest and the highest of the divisor is at least the quotient. -/
theorem guess_least {r d : Nat → Nat} {k : Nat} (hr : ∀ j, j < k + 2 → r j < 18446744073709551616) (hd : 0 < d k) (hlt : val r (k + 2) < 18446744073709551616 * val d (k + 1)) (g : Nat)
    (hg : g = if d k ≤ r (k + 1) then 18446744073709551615 else (r (k + 1) * 18446744073709551616 + r k) / d k) : val r (k + 2) / val d (k + 1) ≤ g := by
  have hP : 0 < 18446744073709551616 ^ k := Nat.pow_pos (by omega)
  have hD := val_ge d k
  have hD0 : 0 < val d (k + 1) := Nat.lt_of_lt_of_le (Nat.mul_pos hP hd) hD
  rw [hg]
  split
  · have : val r (k + 2) / val d (k + 1) < 18446744073709551616 := by rw [Nat.div_lt_iff_lt_mul hD0]; exact hlt
    omega
  · rw [Nat.le_div_iff_mul_le hd]
    have hq := Nat.div_mul_le_self (val r (k + 2)) (val d (k + 1))
    generalize val r (k + 2) / val d (k + 1) = q at *
    have hv := val_lt (fun j hj => hr j (by omega) : ∀ j, j < k → r j < 18446744073709551616)
    have h1 : q * (18446744073709551616 ^ k * d k) ≤ q * val d (k + 1) := Nat.mul_le_mul_left _ hD
    have h2 : val r (k + 2) = val r k + 18446744073709551616 ^ k * (r (k + 1) * 18446744073709551616 + r k) := by
      simp only [val, Nat.pow_succ]
      grind
    have h3 : 18446744073709551616 ^ k * (q * d k) < 18446744073709551616 ^ k * (r (k + 1) * 18446744073709551616 + r k + 1) := by
      have : 18446744073709551616 ^ k * (q * d k) = q * (18446744073709551616 ^ k * d k) := by grind
      rw [this, Nat.mul_add _ (r (k + 1) * 18446744073709551616 + r k) 1, Nat.mul_one]
      omega
    have h4 := Nat.lt_of_mul_lt_mul_left h3
    omega

/-- Where nothing is owed, a part that is not too small is the quotient. -/
theorem part_is {R D N part : Nat} (hD : 0 < D) (h : N + part * D = R) (hl : R / D ≤ part) : part = R / D ∧ N = R % D := by
  have h1 : part ≤ R / D := by rw [Nat.le_div_iff_mul_le hD]; omega
  have e : part = R / D := by omega
  refine ⟨e, ?_⟩
  have := Nat.div_add_mod R D
  rw [← e, Nat.mul_comm] at this
  omega

/-- Where something is owed, the part is too great. -/
theorem part_over {R D N P part : Nat} (hD : 0 < D) (h : N + part * D = R + P) (hN : N < P) : R / D < part := by
  rw [Nat.div_lt_iff_lt_mul hD]
  omega

theorem give_part {R D N N' P part over debt : Nat} (h : N + part * D = R + P * debt) (h1 : N' + P * over = N + D) (hp : 0 < part) (ho : over ≤ debt) : N' + (part - 1) * D = R + P * (debt - over) := by
  obtain ⟨p, rfl⟩ : ∃ p, part = p + 1 := ⟨part - 1, by omega⟩
  obtain ⟨e, rfl⟩ : ∃ e, debt = over + e := ⟨debt - over, by omega⟩
  rw [Nat.add_mul, Nat.one_mul] at h
  rw [Nat.mul_add] at h
  simp only [Nat.add_sub_cancel, Nat.add_sub_cancel_left]
  omega
end Go.Proofs.YthfadinocadhaaaDoor
namespace Go.Proofs.YthfadinocadhaaaDoor
open Go.RowKit

theorem Holds.then_ {S o k : Nat} {n1 n2 : Nat → Nat} {w wr w' : World} (h : Holds S o k n1 w wr) (h' : Holds S o k n2 wr w') : Holds S o k n2 w w' := by
  refine ⟨h.1.trans h'.1, fun j => ?_⟩
  rw [h'.2 j]
  by_cases hj : o ≤ j ∧ j < o + k
  · rw [if_pos hj, if_pos hj]
  · rw [if_neg hj, if_neg hj, h.2 j, if_neg hj]
theorem But.drawn {S : Nat} {w w' : World} (h : But S w w') (n : Nat) : But S w (w'.drewN n) := ⟨h.os, h.tape, h.output, h.size, h.block, h.frozen⟩
theorem But.drawn' {S : Nat} {w w' : World} (n : Nat) (h : But S (w.drewN n) w') : But S w w' := ⟨h.os, h.tape, h.output, h.size, h.block, h.frozen⟩
theorem Holds.drawn' {S o k : Nat} {ns : Nat → Nat} {w w' : World} (n : Nat) (h : Holds S o k ns (w.drewN n) w') : Holds S o k ns w w' := ⟨h.1.drawn' n, h.2⟩

/-- What word.divideStep leaves. -/
def StepPost (S o n : Nat) (r d : Nat → Nat) (w : World) (e : Ending) (w' : World) : Prop :=
  ∃ ns : Nat → Nat, e = .returned (.int .u64 ((val r (n + 1) / val d n : Nat) : Int)) ∧ (∀ j, j < n + 1 → ns j < 18446744073709551616) ∧ val ns (n + 1) = val r (n + 1) % val d n ∧ Holds S o (n + 1) ns w w'

theorem exit_is {R D N P part debt : Nat} (hD : 0 < D) (h : N + part * D = R + P * debt) (hz : debt = 0) (hl : R / D ≤ part) : part = R / D ∧ N = R % D := by
  subst hz
  exact part_is hD (by rw [Nat.mul_zero, Nat.add_zero] at h; exact h) hl
theorem owed_is {R D N P part debt : Nat} (hD : 0 < D) (h : N + part * D = R + P * debt) (hz : debt = 1) (hN : N < P) : R / D < part := by
  subst hz
  exact part_over hD (by rw [Nat.mul_one] at h; exact h) hN

theorem steppost_mk {S o k q : Nat} {r d cur : Nat → Nat} {w w' : World} (hq : q = val r (k + 2) / val d (k + 1)) (h1 : ∀ j, j < k + 2 → cur j < 18446744073709551616) (h2 : val cur (k + 2) = val r (k + 2) % val d (k + 1)) (h3 : Holds S o (k + 2) cur w w') :
    StepPost S o (k + 1) r d w (.returned (.int .u64 (q : Int))) w' := ⟨cur, by rw [hq], h1, h2, h3⟩

set_option maxRecDepth 100000 in
set_option maxHeartbeats 1000000 in
theorem step_any (S o capS D capD k : Nat) (r d : Nat → Nat) (hn : (k : Int) ≤ 100) (hr : ∀ j, j < k + 2 → r j < 18446744073709551616) (hd : ∀ j, j < k + 1 → d j < 18446744073709551616)
    (hdk : 9223372036854775808 ≤ d k) (hlt : val r (k + 2) < 18446744073709551616 * val d (k + 1)) (hSD : D ≠ S) (w : World)
    (hs : ∀ j, j < k + 2 → w.cell? ⟨S, o + j, none⟩ = some (.int .u64 (r j))) (hf : ∀ j, j < k + 2 → w.frozen? ⟨S, o + j, none⟩ = false)
    (hc : ∀ j, j < k + 1 → w.cell? ⟨D, j, none⟩ = some (.int .u64 (d j))) :
    Calls Tryd.prog 97 #[.slice (some ⟨S, o, none⟩) ((k + 1 + 1 : Nat)) capS, .slice (some ⟨D, 0, none⟩) ((k + 1 : Nat)) capD] w (StepPost S o (k + 1) r d w) := by
  have c1 : w.cell? ⟨S, o + (k + 1), none⟩ = some (.int .u64 (r (k + 1))) := hs (k + 1) (by omega)
  have c2 : w.cell? ⟨S, o + k, none⟩ = some (.int .u64 (r k)) := hs k (by omega)
  have c3 : w.cell? ⟨D, k, none⟩ = some (.int .u64 (d k)) := hc k (by omega)
  have b0 : (0 : Int) ≤ k := by omega
  have hg := fun w => guess_any (r (k + 1)) (r k) (d k) (hr _ (by omega)) (hr _ (by omega)) (hd _ (by omega)) hdk w
  obtain ⟨g, eg⟩ : ∃ g, g = guessN (r (k + 1)) (r k) (d k) := ⟨_, rfl⟩
  rw [← eg] at hg
  have hgl : g < 18446744073709551616 := by
    rw [eg]; unfold guessN
    split
    · omega
    · rename_i hh
      rw [Nat.div_lt_iff_lt_mul (by omega)]
      have := hr k (by omega)
      generalize d k = y at *
      generalize r (k + 1) = h at *
      have h2 : (h + 1) * 18446744073709551616 ≤ y * 18446744073709551616 := Nat.mul_le_mul_right _ (by omega)
      omega
  have hge := guess_least (k := k) hr (by omega) hlt g (by rw [eg]; rfl)
  have hD0 : 0 < val d (k + 1) := by
    have := Nat.mul_pos (Nat.pow_pos (n := k) (show 0 < 18446744073709551616 by omega)) (show 0 < d k by omega)
    have := val_ge d k
    omega
  have HG := Lib.hid hg; clear hg
  have HR := Lib.hid hr; clear hr
  have HD := Lib.hid hd; clear hd
  have HS := Lib.hid hs; clear hs
  have HF := Lib.hid hf; clear hf
  have HC := Lib.hid hc; clear hc
  have HN := Lib.hid hSD; clear hSD
  have HGL := Lib.hid hgl; clear hgl
  have HGE := Lib.hid hge; clear hge
  have HD0 := Lib.hid hD0; clear hD0
  have HLT := Lib.hid hlt; clear hlt
  clear eg hdk
  go_enter Tryd.func97, Tryd.ntmps97
  go_wp2_with fail
  go_quiet ((go_at_call 107; exact Calls.quiet_of (HG.out _)))
  go_wp2_with fail
  refine (take_any S o capS D capD (k + 1) g r d (by omega) HR.out HD.out HGL.out HN.out (w.drewN nq) (fun j hj => HS.out j hj) (fun j hj => HF.out j hj) (fun j hj => HC.out j hj)).mono ?_
  rintro e w1 ⟨n1, debt, rfl, hd1, hb1, he1, ho1⟩
  have H1 := Lib.hid hb1; clear hb1
  have E1 := Lib.hid he1; clear he1
  have O1 := Lib.hid (ho1.drawn' _); clear ho1
  go_wp2_with fail
  go_loopw [6, 7] (fun p q wr => ∃ (part debt : Nat) (cur : Nat → Nat), p = .int .u64 part ∧ q = .int .u64 debt ∧ Hid (debt ≤ 1 ∧ part < 18446744073709551616 ∧ val r (k + 2) / val d (k + 1) ≤ part ∧ (∀ j, j < k + 2 → cur j < 18446744073709551616) ∧ val cur (k + 2) + part * val d (k + 1) = val r (k + 2) + 18446744073709551616 ^ (k + 2) * debt ∧ Holds S o (k + 2) cur w wr)) (fun p _ _ => (intOf p).toNat)
  case atStart => exact ⟨g, debt, n1, rfl, rfl, Lib.hid ⟨hd1, HGL.out, HGE.out, H1.out, E1.out, O1.out⟩⟩
  case round =>
    obtain ⟨part, debt, cur, rfl, rfl, H⟩ := hrel
    have d0 : (0 : Int) ≤ debt := by omega
    have d1 : (debt : Int) ≤ 1 := by have := H.out.1; omega
    have p0 : (0 : Int) ≤ part := by omega
    have p1 : (part : Int) ≤ 18446744073709551615 := by have := H.out.2.1; omega
    by_cases hz : debt = 0
    · as_aux_lemma =>
      have t0 : ((debt : Int) != 0) = false := by simp [hz]
      have hE := exit_is HD0.out H.out.2.2.2.2.1 hz H.out.2.2.1
      have HE := Lib.hid hE; clear hE hz
      go_wp2
      go_ret
      exact steppost_mk HE.out.1 H.out.2.2.2.1 HE.out.2 H.out.2.2.2.2.2
    · as_aux_lemma =>
      have t0 : ((debt : Int) != 0) = true := by simp [hz]
      have d2 : (1 : Int) ≤ debt := by omega
      have ho := owed_is HD0.out H.out.2.2.2.2.1 (show debt = 1 by omega) (val_lt H.out.2.2.2.1)
      have p3 : 0 < part := Nat.lt_of_le_of_lt (Nat.zero_le _) ho
      have p2 : (1 : Int) ≤ part := by omega
      clear p3
      have HO := Lib.hid ho; clear ho hz
      go_wp2_with fail
      refine (give_any S o capS D capD (k + 1) cur d (by omega) H.out.2.2.2.1 HD.out HN.out _ ?_ ?_ ?_).mono ?_
      · intro j hj
        rw [H.out.2.2.2.2.2.2 (o + j), if_pos (by omega), show o + j - o = j by omega]
      · intro j hj
        rw [H.out.2.2.2.2.2.1.frozen]
        exact HF.out j hj
      · intro j hj
        rw [H.out.2.2.2.2.2.1.cell (p := ⟨D, j, none⟩) HN.out]
        exact HC.out j hj
      · rintro e w2 ⟨n2, over, rfl, hd2, hb2, he2, ho2⟩
        have o0 : (0 : Int) ≤ over := by omega
        have o1 : (over : Int) ≤ 1 := by omega
        have o2 : (over : Int) ≤ debt := by omega
        have H2 := Lib.hid hb2; clear hb2
        have E2 := Lib.hid he2; clear he2
        have O2 := Lib.hid ho2; clear ho2
        go_wp2
        go_roundw
        case rel =>
          refine ⟨part - 1, debt - over, n2, congrArg (Value.int .u64) (by omega), congrArg (Value.int .u64) (by omega), Lib.hid ⟨by omega, by omega, by have := HO.out; omega, H2.out, ?_, H.out.2.2.2.2.2.then_ O2.out⟩⟩
          exact give_part H.out.2.2.2.2.1 E2.out (by omega) (by omega)
        case measure => simp [intOf]; omega
end Go.Proofs.YthfadinocadhaaaDoor
namespace Go.Proofs.YthfadinocadhaaaDoor
open Go.RowKit

theorem eqW (a0 a1 a2 a3 b0 b1 b2 b3 : Nat) (w : World) :
    (Op.equalIn 10000 24 (.agg #[.int .u64 a0, .int .u64 a1, .int .u64 a2, .int .u64 a3]) (.agg #[.int .u64 b0, .int .u64 b1, .int .u64 b2, .int .u64 b3])).run Tryd.prog w = .ok ((a0 == b0) && ((a1 == b1) && ((a2 == b2) && (a3 == b3)))) w := by
  have u3 := Tryd.underlying22
  have a3' := Tryd.isAgg22
  have z3 := Tryd.sizeOf22
  rw [show (10000 : Nat) = 9999 + 1 from rfl, Op.equalIn]
  simp only [Sem.run_bind, run_underlying Tryd.underlying24, Result.andThen_ok]
  simp only [Std.Legacy.Range.forIn_eq_forIn_range', Std.Legacy.Range.size, Nat.sub_zero, Nat.add_sub_cancel, Nat.div_one, List.range'_succ, List.range'_zero, List.forIn_cons, List.forIn_nil]
  go_simp
  simp only [Int.natCast_inj]
  by_cases h0 : a0 = b0
  · by_cases h1 : a1 = b1
    · by_cases h2 : a2 = b2
      · by_cases h3 : a3 = b3
        · simp [h0, h1, h2, h3]
        · simp [h0, h1, h2, h3]
      · simp [h0, h1, h2]
    · simp [h0, h1]
  · simp [h0]
end Go.Proofs.YthfadinocadhaaaDoor
namespace Go.Proofs.YthfadinocadhaaaDoor
open Go.RowKit

set_option maxHeartbeats 400000 in
theorem of_exact (n : Nat) (w : World) :
    Calls Tryd.prog 57 #[.int .u64 n] w fun e w' => e = .returned (.agg #[.int .u64 n, .int .u64 0, .int .u64 0, .int .u64 0]) ∧ w.alloc (.cells #[.int .u64 n, .int .u64 0, .int .u64 0, .int .u64 0] 24) = w' := by
  go_enter Tryd.func57, Tryd.ntmps57
  go_wp2
  go_returns
  exact ⟨rfl, rfl⟩

set_option maxRecDepth 100000 in
set_option maxHeartbeats 400000 in
theorem small_yes (a0 : Nat) (w : World) :
    Calls Tryd.prog 52 #[.agg #[.int .u64 a0, .int .u64 0, .int .u64 0, .int .u64 0]] w fun e w' => e = .returned (.tuple #[.int .u64 a0, .bool true]) ∧ Below w.heap.size w w' := by
  have he : ∀ w, (Op.equalIn 10000 24 (.agg #[.int .u64 a0, .int .u64 0, .int .u64 0, .int .u64 0]) (.agg #[.int .u64 a0, .int .u64 0, .int .u64 0, .int .u64 0])).run Tryd.prog w = .ok true w := fun w => by
    have := eqW a0 0 0 0 a0 0 0 0 w
    simpa using this
  go_enter Tryd.func52, Tryd.ntmps52
  go_wp2
  go_region_with (go_at_call 57; refine (of_exact a0 _).mono ?_; rintro e w' ⟨rfl, rfl⟩)
  all_goals go_wp2
  all_goals (go_ret2; exact ⟨rfl, by go_grown⟩)

set_option maxRecDepth 100000 in
set_option maxHeartbeats 400000 in
theorem small_no (a0 a1 a2 a3 : Nat) (h : ¬ (a1 = 0 ∧ a2 = 0 ∧ a3 = 0)) (w : World) :
    Calls Tryd.prog 52 #[.agg #[.int .u64 a0, .int .u64 a1, .int .u64 a2, .int .u64 a3]] w fun e w' => e = .returned (.tuple #[.int .u64 0, .bool false]) ∧ Below w.heap.size w w' := by
  have he : ∀ w, (Op.equalIn 10000 24 (.agg #[.int .u64 a0, .int .u64 a1, .int .u64 a2, .int .u64 a3]) (.agg #[.int .u64 a0, .int .u64 0, .int .u64 0, .int .u64 0])).run Tryd.prog w = .ok false w := fun w => by
    have := eqW a0 a1 a2 a3 a0 0 0 0 w
    have hf : (a0 == a0 && (a1 == 0 && (a2 == 0 && a3 == 0))) = false := by simpa using h
    rw [hf] at this
    exact this
  clear h
  go_enter Tryd.func52, Tryd.ntmps52
  go_wp2
  go_region_with (go_at_call 57; refine (of_exact a0 _).mono ?_; rintro e w' ⟨rfl, rfl⟩)
  all_goals go_wp2
  all_goals (go_ret2; exact ⟨rfl, by go_grown⟩)
end Go.Proofs.YthfadinocadhaaaDoor
namespace Go.Proofs.YthfadinocadhaaaDoor
open Go.RowKit

-- WHAT Small COMES TO.
theorem small_any (x : Nat) (w : World) :
    Calls Tryd.prog 52 #[wv x] w fun e w' => e = .returned (.tuple #[.int .u64 ((if x % 115792089237316195423570985008687907853269984665640564039457584007913129639936 < 18446744073709551616 then x % 115792089237316195423570985008687907853269984665640564039457584007913129639936 else 0 : Nat) : Int), .bool (decide (x % 115792089237316195423570985008687907853269984665640564039457584007913129639936 < 18446744073709551616))]) ∧ Below w.heap.size w w' := by
  obtain ⟨a0, a1, a2, a3, u0, u1, u2, u3, ea, na⟩ := wv_parts x
  rw [ea, ← na]
  by_cases h : a1 = 0 ∧ a2 = 0 ∧ a3 = 0
  · obtain ⟨rfl, rfl, rfl⟩ := h
    have e : n4 a0 0 0 0 = a0 := by unfold n4; omega
    rw [e, if_pos u0, decide_eq_true u0]
    exact small_yes a0 w
  · have e : ¬ n4 a0 a1 a2 a3 < 18446744073709551616 := by unfold n4; omega
    rw [if_neg e, decide_eq_false e]
    exact small_no a0 a1 a2 a3 h w

set_option maxRecDepth 100000 in
set_option maxHeartbeats 400000 in
theorem steps_few (a0 a1 a2 a3 n : Nat) (hn : (n : Int) ≤ 256) (w : World)
    (hS : ∀ w, Calls Tryd.prog 52 #[.agg #[.int .u64 a0, .int .u64 a1, .int .u64 a2, .int .u64 a3]] w fun e w' => e = .returned (.tuple #[.int .u64 n, .bool true]) ∧ Below w.heap.size w w') :
    Calls Tryd.prog 80 #[.agg #[.int .u64 a0, .int .u64 a1, .int .u64 a2, .int .u64 a3]] w fun e w' => e = .returned (.tuple #[.int .i64 ((n / 64 : Nat) : Int), .int .i64 ((n % 64 : Nat) : Int)]) ∧ Below w.heap.size w w' := by
  have hn' : ¬ (256 : Int) < n := by omega
  have h0 : (0 : Int) ≤ n := by omega
  go_enter Tryd.func80, Tryd.ntmps80
  go_wp2_with fail
  refine (hS _).mono ?_
  rintro e w1 ⟨rfl, hb⟩
  have hb' : Below w.heap.size w w1 := Below.trans (by go_grown) (hb.mono (by simp))
  clear hb
  go_wp2
  go_outline
  go_ret2
  exact ⟨by simp, hb'⟩

set_option maxRecDepth 100000 in
set_option maxHeartbeats 400000 in
theorem steps_many (a0 a1 a2 a3 n : Nat) (b : Bool) (hn : b = true → (256 : Int) < n) (w : World)
    (hS : ∀ w, Calls Tryd.prog 52 #[.agg #[.int .u64 a0, .int .u64 a1, .int .u64 a2, .int .u64 a3]] w fun e w' => e = .returned (.tuple #[.int .u64 n, .bool b]) ∧ Below w.heap.size w w') :
    Calls Tryd.prog 80 #[.agg #[.int .u64 a0, .int .u64 a1, .int .u64 a2, .int .u64 a3]] w fun e w' => e = .returned (.tuple #[.int .i64 4, .int .i64 0]) ∧ Below w.heap.size w w' := by
  have h0 : (0 : Int) ≤ n := by omega
  cases b
  all_goals
    try have hn' := hn rfl
    clear hn
    go_enter Tryd.func80, Tryd.ntmps80
    go_wp2_with fail
    refine (hS _).mono ?_
    rintro e w1 ⟨rfl, hb⟩
    have hb' : Below w.heap.size w w1 := Below.trans (by go_grown) (hb.mono (by simp))
    clear hb
    go_wp2
    go_ret2
    exact ⟨by simp, hb'⟩

-- WHAT steps COMES TO.
theorem steps_any (x : Nat) (w : World) :
    Calls Tryd.prog 80 #[wv x] w fun e w' => e = .returned (.tuple #[.int .i64 ((min (x % 115792089237316195423570985008687907853269984665640564039457584007913129639936) 256 / 64 : Nat) : Int), .int .i64 ((min (x % 115792089237316195423570985008687907853269984665640564039457584007913129639936) 256 % 64 : Nat) : Int)]) ∧ Below w.heap.size w w' := by
  have hS := fun w => small_any x w
  obtain ⟨a0, a1, a2, a3, u0, u1, u2, u3, ea, na⟩ := wv_parts x
  generalize x % 115792089237316195423570985008687907853269984665640564039457584007913129639936 = y at *
  rw [ea] at hS
  rw [ea]
  by_cases h : y ≤ 256
  · rw [if_pos (by omega), decide_eq_true (by omega)] at hS
    rw [Nat.min_eq_left h]
    exact steps_few a0 a1 a2 a3 y (by omega) w hS
  · rw [Nat.min_eq_right (by omega)]
    exact steps_many a0 a1 a2 a3 _ _ (fun hb => by rw [if_pos (by simpa using hb)]; omega) w hS
end Go.Proofs.YthfadinocadhaaaDoor
namespace Go.Proofs.YthfadinocadhaaaDoor
open Go.RowKit

theorem pow_split {s t : Nat} (h : s + t = 64) : 2 ^ s * 2 ^ t = 18446744073709551616 := by rw [← Nat.pow_add, h]

/-- A part shifted up beside what came out of the part below it. -/
theorem cmb_up {p q s t : Nat} (hq : q < 18446744073709551616) (h : s + t = 64) :
    bits .or .u64 (IntKind.u64.wrap ((p : Int) * 2 ^ s)) ((q : Int) / 2 ^ t) = ((p * 2 ^ s % 18446744073709551616 + q / 2 ^ t : Nat) : Int) := by
  have hD := pow_split h
  have hT : 0 < 2 ^ t := Nat.two_pow_pos t
  have hqs : q / 2 ^ t < 2 ^ s := by rw [Nat.div_lt_iff_lt_mul hT, hD]; exact hq
  have e1 : IntKind.u64.wrap ((p : Int) * 2 ^ s) = ((p * 2 ^ s % 18446744073709551616 : Nat) : Int) := by
    rw [IntKind.wrap_u64]
    have : ((p : Int) * 2 ^ s) = ((p * 2 ^ s : Nat) : Int) := by simp
    rw [this]; omega
  have e2 : ((q : Int) / 2 ^ t) = ((q / 2 ^ t : Nat) : Int) := by simp
  have e3 : p * 2 ^ s % 18446744073709551616 = 2 ^ s * (p % 2 ^ t) := by
    rw [← hD, Nat.mul_comm p, Nat.mul_mod_mul_left]
  have hl : p * 2 ^ s % 18446744073709551616 < 18446744073709551616 := Nat.mod_lt _ (by omega)
  have hr : q / 2 ^ t < 18446744073709551616 := Nat.lt_of_le_of_lt (Nat.div_le_self _ _) hq
  rw [e1, e2, bits_or_u64_nat _ _ hl hr, e3, ← Nat.two_pow_add_eq_or_of_lt hqs]

/-- A part shifted down beside what came out of the part above it. -/
theorem cmb_down {p q s t : Nat} (hp : p < 18446744073709551616) (h : s + t = 64) :
    bits .or .u64 ((p : Int) / 2 ^ s) (IntKind.u64.wrap ((q : Int) * 2 ^ t)) = ((p / 2 ^ s + q * 2 ^ t % 18446744073709551616 : Nat) : Int) := by
  have hD := pow_split h
  have hS : 0 < 2 ^ s := Nat.two_pow_pos s
  have hps : p / 2 ^ s < 2 ^ t := by rw [Nat.div_lt_iff_lt_mul hS, Nat.mul_comm, hD]; exact hp
  have e1 : IntKind.u64.wrap ((q : Int) * 2 ^ t) = ((q * 2 ^ t % 18446744073709551616 : Nat) : Int) := by
    rw [IntKind.wrap_u64]
    have : ((q : Int) * 2 ^ t) = ((q * 2 ^ t : Nat) : Int) := by simp
    rw [this]; omega
  have e2 : ((p : Int) / 2 ^ s) = ((p / 2 ^ s : Nat) : Int) := by simp
  have e3 : q * 2 ^ t % 18446744073709551616 = 2 ^ t * (q % 2 ^ s) := by
    rw [← hD, Nat.mul_comm (2 ^ s), Nat.mul_comm q, Nat.mul_mod_mul_left]
  have hl : q * 2 ^ t % 18446744073709551616 < 18446744073709551616 := Nat.mod_lt _ (by omega)
  have hr : p / 2 ^ s < 18446744073709551616 := Nat.lt_of_le_of_lt (Nat.div_le_self _ _) hp
  rw [e1, e2, bits_or_u64_nat _ _ hr hl, e3, Nat.or_comm, ← Nat.two_pow_add_eq_or_of_lt hps, Nat.add_comm]

/-- A part times 2^s: what stays, and what goes over. -/
theorem up_split {p s t : Nat} (h : s + t = 64) : p * 2 ^ s = p * 2 ^ s % 18446744073709551616 + 18446744073709551616 * (p / 2 ^ t) := by
  have hD := pow_split h
  have hS : 0 < 2 ^ s := Nat.two_pow_pos s
  have e : p * 2 ^ s / 18446744073709551616 = p / 2 ^ t := by
    rw [← hD, Nat.mul_comm p, Nat.mul_div_mul_left _ _ hS]
  have := Nat.div_add_mod (p * 2 ^ s) 18446744073709551616
  rw [e] at this
  omega

theorem cmb_lt {p q s t : Nat} (hq : q < 18446744073709551616) (h : s + t = 64) : p * 2 ^ s % 18446744073709551616 + q / 2 ^ t < 18446744073709551616 := by
  have hD := pow_split h
  have hT : 0 < 2 ^ t := Nat.two_pow_pos t
  have hqs : q / 2 ^ t < 2 ^ s := by rw [Nat.div_lt_iff_lt_mul hT, hD]; exact hq
  have e3 : p * 2 ^ s % 18446744073709551616 = 2 ^ s * (p % 2 ^ t) := by
    rw [← hD, Nat.mul_comm p, Nat.mul_mod_mul_left]
  have hm : p % 2 ^ t < 2 ^ t := Nat.mod_lt _ hT
  have : 2 ^ s * (p % 2 ^ t) + 2 ^ s ≤ 2 ^ s * 2 ^ t := by
    rw [← Nat.mul_succ]; exact Nat.mul_le_mul_left _ hm
  omega

theorem n4_up (p0 p1 p2 p3 : Nat) {s t : Nat} (h : s + t = 64) :
    n4 (p0 * 2 ^ s % 18446744073709551616 + 0 / 2 ^ t) (p1 * 2 ^ s % 18446744073709551616 + p0 / 2 ^ t) (p2 * 2 ^ s % 18446744073709551616 + p1 / 2 ^ t) (p3 * 2 ^ s % 18446744073709551616 + p2 / 2 ^ t)
      + 115792089237316195423570985008687907853269984665640564039457584007913129639936 * (p3 / 2 ^ t) = n4 p0 p1 p2 p3 * 2 ^ s := by
  have h0 := up_split (p := p0) h
  have h1 := up_split (p := p1) h
  have h2 := up_split (p := p2) h
  have h3 := up_split (p := p3) h
  have e : n4 p0 p1 p2 p3 * 2 ^ s = n4 (p0 * 2 ^ s) (p1 * 2 ^ s) (p2 * 2 ^ s) (p3 * 2 ^ s) := by unfold n4; grind
  rw [e, Nat.zero_div]
  unfold n4
  generalize p0 * 2 ^ s = c0 at *
  generalize p1 * 2 ^ s = c1 at *
  generalize p2 * 2 ^ s = c2 at *
  generalize p3 * 2 ^ s = c3 at *
  omega

/-- Down: the quotient by 2^s of four parts, with more parts above them. -/
theorem n4_down (p0 p1 p2 p3 p4 : Nat) {s t : Nat} (h : s + t = 64) :
    n4 (p0 / 2 ^ s + p1 * 2 ^ t % 18446744073709551616) (p1 / 2 ^ s + p2 * 2 ^ t % 18446744073709551616) (p2 / 2 ^ s + p3 * 2 ^ t % 18446744073709551616) (p3 / 2 ^ s + p4 * 2 ^ t % 18446744073709551616)
      = n4 p0 p1 p2 p3 / 2 ^ s + 6277101735386680763835789423207666416102355444464034512896 * (p4 * 2 ^ t % 18446744073709551616) := by
  have hD := pow_split h
  have hS : 0 < 2 ^ s := Nat.two_pow_pos s
  have h1 := up_split (p := p1) (s := t) (t := s) (by omega)
  have h2 := up_split (p := p2) (s := t) (t := s) (by omega)
  have h3 := up_split (p := p3) (s := t) (t := s) (by omega)
  -- the whole times 2^t, by parts
  have e : n4 p0 p1 p2 p3 = p0 + 2 ^ s * (p1 * 2 ^ t + 18446744073709551616 * (p2 * 2 ^ t) + 340282366920938463463374607431768211456 * (p3 * 2 ^ t)) := by
    unfold n4
    have : ∀ p, 18446744073709551616 * p = 2 ^ s * (p * 2 ^ t) := fun p => by rw [← hD]; grind
    have a1 := this p1
    have a2 := this (18446744073709551616 * p2)
    have a3 := this (340282366920938463463374607431768211456 * p3)
    have b2 : 18446744073709551616 * p2 * 2 ^ t = 18446744073709551616 * (p2 * 2 ^ t) := by grind
    have b3 : 340282366920938463463374607431768211456 * p3 * 2 ^ t = 340282366920938463463374607431768211456 * (p3 * 2 ^ t) := by grind
    rw [b2] at a2
    rw [b3] at a3
    rw [Nat.mul_add, Nat.mul_add, ← a1, ← a2, ← a3]
    omega
  rw [e, Nat.add_mul_div_left _ _ hS]
  unfold n4
  generalize p1 * 2 ^ t = c1 at *
  generalize p2 * 2 ^ t = c2 at *
  generalize p3 * 2 ^ t = c3 at *
  generalize p4 * 2 ^ t = c4 at *
  omega
end Go.Proofs.YthfadinocadhaaaDoor
namespace Go.Proofs.YthfadinocadhaaaDoor
open Go.RowKit

theorem part_neg (i : Int) (b : Nat) (h : i < 0) (w : World) : Calls Tryd.prog 81 #[.int .i64 i, .pointer (some ⟨b, 0, none⟩)] w fun e w' => e = .returned (.int .u64 0) ∧ w' = w := by
  go_enter Tryd.func81, Tryd.ntmps81
  go_wp2
  go_ret
  exact ⟨rfl, rfl⟩
theorem part_at (i b : Nat) (v : Value) (h0 : (0 : Int) ≤ i) (h : (i : Int) < 4) (w : World) (hc : w.cell? ⟨b, i, none⟩ = some v) : Calls Tryd.prog 81 #[.int .i64 i, .pointer (some ⟨b, 0, none⟩)] w fun e w' => e = .returned v ∧ w' = w := by
  go_enter Tryd.func81, Tryd.ntmps81
  go_wp2
  go_ret
  exact ⟨rfl, rfl⟩

/-- A region of reads and quiet calls ahead of one store: in the text's order, behind one draw. -/
theorem region_still {P : Program} {id : Nat} {Q : Exit → Act → World → Prop} {a : Act} {w : World} {l : List Oper} (n : Nat) (hm : P.follows .mixedOrders = true) (hB : Region.lexTailB .any l.toArray n = true)
    (h : wpStill P l.toArray w.drew (fun a' => wpList P l.toArray Q (l.drop n) a' w.drew) (l.take n) a) : (Code.region id l.toArray true).wp P Q a w := wp_region_still_tail n hm hB h

set_option maxRecDepth 100000 in
set_option maxHeartbeats 2000000 in
theorem shl_walk (k0 k1 k2 k3 a0 a1 a2 a3 pm p0 p1 p2 p3 s t : Nat) (wh jm j0 j1 j2 j3 : Int) (h0 : (0 : Int) ≤ s) (h64 : (s : Int) < 64)
    (ht : IntKind.i64.wrap (64 - (s : Int)) = (t : Int)) (ht64 : (t : Int) ≤ 64)
    (e0 : IntKind.i64.wrap (-wh) = j0) (e1 : IntKind.i64.wrap (1 - wh) = j1) (e2 : IntKind.i64.wrap (2 - wh) = j2) (e3 : IntKind.i64.wrap (3 - wh) = j3)
    (g0 : IntKind.i64.wrap (j0 - 1) = jm) (g1 : IntKind.i64.wrap (j1 - 1) = j0) (g2 : IntKind.i64.wrap (j2 - 1) = j1) (g3 : IntKind.i64.wrap (j3 - 1) = j2) (w : World)
    (hC : ∀ (b : Nat) (W : World), W.cell? ⟨b, 0, none⟩ = some (.int .u64 a0) → W.cell? ⟨b, 1, none⟩ = some (.int .u64 a1) → W.cell? ⟨b, 2, none⟩ = some (.int .u64 a2) → W.cell? ⟨b, 3, none⟩ = some (.int .u64 a3) →
      (Calls Tryd.prog 81 #[.int .i64 jm, .pointer (some ⟨b, 0, none⟩)] W fun e w' => e = .returned (.int .u64 pm) ∧ w' = W) ∧
      (Calls Tryd.prog 81 #[.int .i64 j0, .pointer (some ⟨b, 0, none⟩)] W fun e w' => e = .returned (.int .u64 p0) ∧ w' = W) ∧
      (Calls Tryd.prog 81 #[.int .i64 j1, .pointer (some ⟨b, 0, none⟩)] W fun e w' => e = .returned (.int .u64 p1) ∧ w' = W) ∧
      (Calls Tryd.prog 81 #[.int .i64 j2, .pointer (some ⟨b, 0, none⟩)] W fun e w' => e = .returned (.int .u64 p2) ∧ w' = W) ∧
      (Calls Tryd.prog 81 #[.int .i64 j3, .pointer (some ⟨b, 0, none⟩)] W fun e w' => e = .returned (.int .u64 p3) ∧ w' = W))
    (hS : ∀ w, Calls Tryd.prog 80 #[.agg #[.int .u64 k0, .int .u64 k1, .int .u64 k2, .int .u64 k3]] w fun e w' => e = .returned (.tuple #[.int .i64 wh, .int .i64 s]) ∧ Below w.heap.size w w') :
    Calls Tryd.prog 37 #[.agg #[.int .u64 k0, .int .u64 k1, .int .u64 k2, .int .u64 k3], .agg #[.int .u64 a0, .int .u64 a1, .int .u64 a2, .int .u64 a3]] w fun e w' => 
      e = .returned (.agg #[.int .u64 (bits .or .u64 (IntKind.u64.wrap ((p0 : Int) * 2 ^ s)) ((pm : Int) / 2 ^ t)), .int .u64 (bits .or .u64 (IntKind.u64.wrap ((p1 : Int) * 2 ^ s)) ((p0 : Int) / 2 ^ t)), .int .u64 (bits .or .u64 (IntKind.u64.wrap ((p2 : Int) * 2 ^ s)) ((p1 : Int) / 2 ^ t)), .int .u64 (bits .or .u64 (IntKind.u64.wrap ((p3 : Int) * 2 ^ s)) ((p2 : Int) / 2 ^ t))]) ∧ Below w.heap.size w w' := by
  have HC := Lib.hid hC; clear hC
  have G0 := Lib.hid g0; clear g0
  have G1 := Lib.hid g1; clear g1
  have G2 := Lib.hid g2; clear g2
  have G3 := Lib.hid g3; clear g3
  go_enter Tryd.func37, Tryd.ntmps37
  go_wp2_with fail
  refine (hS _).mono ?_
  rintro e w1 ⟨rfl, hb⟩
  obtain ⟨x0, -, -⟩ := after1 (b := w.heap.size + 1) (i := 0) (v := .int .u64 a0) hb (by simp) (by go_cell) (by go_cell)
  obtain ⟨x1, -, -⟩ := after1 (b := w.heap.size + 1) (i := 1) (v := .int .u64 a1) hb (by simp) (by go_cell) (by go_cell)
  obtain ⟨x2, -, -⟩ := after1 (b := w.heap.size + 1) (i := 2) (v := .int .u64 a2) hb (by simp) (by go_cell) (by go_cell)
  obtain ⟨x3, -, -⟩ := after1 (b := w.heap.size + 1) (i := 3) (v := .int .u64 a3) hb (by simp) (by go_cell) (by go_cell)
  obtain ⟨⟨q0, q1, q2, q3⟩, ⟨f0, f1, f2, f3⟩, hz, hb'⟩ := after4 (w := w) (B := w.heap.size) (w.heap.size + 1 + 1) hb (by go_grown) (by simp; omega) (by simp) (by go_cell) (by go_cell) (by go_cell) (by go_cell) (by go_cell) (by go_cell) (by go_cell) (by go_cell)
  clear hb
  have hz1 : w.heap.size + 1 < w1.heap.size := by omega
  go_wp2
  refine wp_loop_rounds 5 ?_
  rw [rounds_succ]; go_wp2
  refine region_still 19 (by kernel_rfl) (by kernel_rfl) ?_
  simp only [List.take_succ_cons, List.take_zero, List.drop_succ_cons, List.drop_zero]
  repeat still_step
  still_call (HC.out (w.heap.size + 1) _ (by go_cell) (by go_cell) (by go_cell) (by go_cell)).2.1
  have g := G0.out
  repeat still_step
  clear g
  still_call (HC.out (w.heap.size + 1) _ (by go_cell) (by go_cell) (by go_cell) (by go_cell)).1
  repeat still_step
  refine wpStill_nil ?_
  go_wp2
  rw [rounds_succ]; go_wp2
  refine region_still 19 (by kernel_rfl) (by kernel_rfl) ?_
  simp only [List.take_succ_cons, List.take_zero, List.drop_succ_cons, List.drop_zero]
  repeat still_step
  still_call (HC.out (w.heap.size + 1) _ (by go_cell) (by go_cell) (by go_cell) (by go_cell)).2.2.1
  have g := G1.out
  repeat still_step
  clear g
  still_call (HC.out (w.heap.size + 1) _ (by go_cell) (by go_cell) (by go_cell) (by go_cell)).2.1
  repeat still_step
  refine wpStill_nil ?_
  go_wp2
  rw [rounds_succ]; go_wp2
  refine region_still 19 (by kernel_rfl) (by kernel_rfl) ?_
  simp only [List.take_succ_cons, List.take_zero, List.drop_succ_cons, List.drop_zero]
  repeat still_step
  still_call (HC.out (w.heap.size + 1) _ (by go_cell) (by go_cell) (by go_cell) (by go_cell)).2.2.2.1
  have g := G2.out
  repeat still_step
  clear g
  still_call (HC.out (w.heap.size + 1) _ (by go_cell) (by go_cell) (by go_cell) (by go_cell)).2.2.1
  repeat still_step
  refine wpStill_nil ?_
  go_wp2
  rw [rounds_succ]; go_wp2
  refine region_still 19 (by kernel_rfl) (by kernel_rfl) ?_
  simp only [List.take_succ_cons, List.take_zero, List.drop_succ_cons, List.drop_zero]
  repeat still_step
  still_call (HC.out (w.heap.size + 1) _ (by go_cell) (by go_cell) (by go_cell) (by go_cell)).2.2.2.2
  have g := G3.out
  repeat still_step
  clear g
  still_call (HC.out (w.heap.size + 1) _ (by go_cell) (by go_cell) (by go_cell) (by go_cell)).2.2.2.1
  repeat still_step
  refine wpStill_nil ?_
  go_wp2
  rw [rounds_succ]; go_wp2
  refine bodyPost_ret (by simp [results, Tryd.results37, go_sem, hz, q0, q1, q2, q3]; try rfl) rfl ⟨rfl, ?_⟩
  go_grown

end Go.Proofs.YthfadinocadhaaaDoor
namespace Go.Proofs.YthfadinocadhaaaDoor
open Go.RowKit

/-- The walk, by numbers: p's are the parts that come to each place. -/
theorem shl_parts (k0 k1 k2 k3 a0 a1 a2 a3 p0 p1 p2 p3 s t : Nat) (wh jm j0 j1 j2 j3 : Int) (hst : s + t = 64) (hs : s < 64)
    (u0 : p0 < 18446744073709551616) (u1 : p1 < 18446744073709551616) (u2 : p2 < 18446744073709551616)
    (e0 : IntKind.i64.wrap (-wh) = j0) (e1 : IntKind.i64.wrap (1 - wh) = j1) (e2 : IntKind.i64.wrap (2 - wh) = j2) (e3 : IntKind.i64.wrap (3 - wh) = j3)
    (g0 : IntKind.i64.wrap (j0 - 1) = jm) (g1 : IntKind.i64.wrap (j1 - 1) = j0) (g2 : IntKind.i64.wrap (j2 - 1) = j1) (g3 : IntKind.i64.wrap (j3 - 1) = j2) (w : World)
    (hC : ∀ (b : Nat) (W : World), W.cell? ⟨b, 0, none⟩ = some (.int .u64 a0) → W.cell? ⟨b, 1, none⟩ = some (.int .u64 a1) → W.cell? ⟨b, 2, none⟩ = some (.int .u64 a2) → W.cell? ⟨b, 3, none⟩ = some (.int .u64 a3) →
      (Calls Tryd.prog 81 #[.int .i64 jm, .pointer (some ⟨b, 0, none⟩)] W fun e w' => e = .returned (.int .u64 0) ∧ w' = W) ∧
      (Calls Tryd.prog 81 #[.int .i64 j0, .pointer (some ⟨b, 0, none⟩)] W fun e w' => e = .returned (.int .u64 p0) ∧ w' = W) ∧
      (Calls Tryd.prog 81 #[.int .i64 j1, .pointer (some ⟨b, 0, none⟩)] W fun e w' => e = .returned (.int .u64 p1) ∧ w' = W) ∧
      (Calls Tryd.prog 81 #[.int .i64 j2, .pointer (some ⟨b, 0, none⟩)] W fun e w' => e = .returned (.int .u64 p2) ∧ w' = W) ∧
      (Calls Tryd.prog 81 #[.int .i64 j3, .pointer (some ⟨b, 0, none⟩)] W fun e w' => e = .returned (.int .u64 p3) ∧ w' = W))
    (hS : ∀ w, Calls Tryd.prog 80 #[.agg #[.int .u64 k0, .int .u64 k1, .int .u64 k2, .int .u64 k3]] w fun e w' => e = .returned (.tuple #[.int .i64 wh, .int .i64 s]) ∧ Below w.heap.size w w') :
    Calls Tryd.prog 37 #[.agg #[.int .u64 k0, .int .u64 k1, .int .u64 k2, .int .u64 k3], .agg #[.int .u64 a0, .int .u64 a1, .int .u64 a2, .int .u64 a3]] w fun e w' =>
      e = .returned (wv (n4 p0 p1 p2 p3 * 2 ^ s)) ∧ Below w.heap.size w w' := by
  have ht : IntKind.i64.wrap (64 - (s : Int)) = (t : Int) := by rw [IntKind.wrap_i64]; omega
  have h := shl_walk k0 k1 k2 k3 a0 a1 a2 a3 0 p0 p1 p2 p3 s t wh jm j0 j1 j2 j3 (by omega) (by omega) ht (by omega) e0 e1 e2 e3 g0 g1 g2 g3 w hC hS
  rw [cmb_up (p := p0) (q := 0) (by omega) hst, cmb_up (p := p1) (q := p0) u0 hst, cmb_up (p := p2) (q := p1) u1 hst, cmb_up (p := p3) (q := p2) u2 hst,
    ← wv_n4 (cmb_lt (by omega) hst) (cmb_lt u0 hst) (cmb_lt u1 hst) (cmb_lt u2 hst), wv_congr (y := n4 p0 p1 p2 p3 * 2 ^ s)] at h
  · exact h
  · rw [← n4_up p0 p1 p2 p3 hst, Nat.add_mul_mod_self_left]

-- WHAT Shl COMES TO.
theorem shl_any (k x : Nat) (w : World) :
    Calls Tryd.prog 37 #[wv k, wv x] w fun e w' => e = .returned (wv (x * 2 ^ min (k % 115792089237316195423570985008687907853269984665640564039457584007913129639936) 256)) ∧ Below w.heap.size w w' := by
  have hS := fun w => steps_any k w
  obtain ⟨k0, k1, k2, k3, -, -, -, -, ek, -⟩ := wv_parts k
  obtain ⟨a0, a1, a2, a3, u0, u1, u2, u3, ea, na⟩ := wv_parts x
  generalize hm : min (k % 115792089237316195423570985008687907853269984665640564039457584007913129639936) 256 = m at *
  have hm256 : m ≤ 256 := by omega
  clear hm
  have hx : ∀ y z : Nat, y % 115792089237316195423570985008687907853269984665640564039457584007913129639936 = n4 a0 a1 a2 a3 * z % 115792089237316195423570985008687907853269984665640564039457584007913129639936 → z = 2 ^ m → wv y = wv (x * 2 ^ m) := by
    intro y z h hz
    refine wv_congr ?_
    rw [h, hz, na, Nat.mod_mul_mod]
  rw [ek] at hS
  rw [ek, ea]
  have hst : m % 64 + (64 - m % 64) = 64 := by omega
  have hs : m % 64 < 64 := by omega
  have hw : m / 64 = 0 ∨ m / 64 = 1 ∨ m / 64 = 2 ∨ m / 64 = 3 ∨ m / 64 = 4 := by omega
  have neg := fun (i : Int) (hi : i < 0) (b : Nat) (W : World) => part_neg i b hi W
  rcases hw with h | h | h | h | h
  all_goals rw [h] at hS
  · rw [← hx (n4 a0 a1 a2 a3 * 2 ^ (m % 64)) (2 ^ (m % 64)) rfl (by congr 1; omega)]
    exact shl_parts k0 k1 k2 k3 a0 a1 a2 a3 a0 a1 a2 a3 (m % 64) (64 - m % 64) 0 (-1) 0 1 2 3 hst hs u0 u1 u2 (by decide) (by decide) (by decide) (by decide) (by decide) (by decide) (by decide) (by decide) w
      (fun b W c0 c1 c2 c3 => ⟨neg _ (by omega) b W, part_at 0 b _ (by omega) (by omega) W c0, part_at 1 b _ (by omega) (by omega) W c1, part_at 2 b _ (by omega) (by omega) W c2, part_at 3 b _ (by omega) (by omega) W c3⟩) hS
  · rw [← hx (n4 0 a0 a1 a2 * 2 ^ (m % 64)) (18446744073709551616 * 2 ^ (m % 64)) (by rw [← Nat.mul_assoc, ← Nat.mod_mul_mod, ← Nat.mod_mul_mod (n4 a0 a1 a2 a3 * _)]; congr 2; unfold n4; omega) (by rw [show (18446744073709551616 : Nat) = 2 ^ 64 by decide, ← Nat.pow_add]; congr 1; omega)]
    exact shl_parts k0 k1 k2 k3 a0 a1 a2 a3 0 a0 a1 a2 (m % 64) (64 - m % 64) 1 (-2) (-1) 0 1 2 hst hs (by omega) u0 u1 (by decide) (by decide) (by decide) (by decide) (by decide) (by decide) (by decide) (by decide) w
      (fun b W c0 c1 c2 c3 => ⟨neg _ (by omega) b W, neg _ (by omega) b W, part_at 0 b _ (by omega) (by omega) W c0, part_at 1 b _ (by omega) (by omega) W c1, part_at 2 b _ (by omega) (by omega) W c2⟩) hS
  · rw [← hx (n4 0 0 a0 a1 * 2 ^ (m % 64)) (340282366920938463463374607431768211456 * 2 ^ (m % 64)) (by rw [← Nat.mul_assoc, ← Nat.mod_mul_mod, ← Nat.mod_mul_mod (n4 a0 a1 a2 a3 * _)]; congr 2; unfold n4; omega) (by rw [show (340282366920938463463374607431768211456 : Nat) = 2 ^ 128 by decide, ← Nat.pow_add]; congr 1; omega)]
    exact shl_parts k0 k1 k2 k3 a0 a1 a2 a3 0 0 a0 a1 (m % 64) (64 - m % 64) 2 (-3) (-2) (-1) 0 1 hst hs (by omega) (by omega) u0 (by decide) (by decide) (by decide) (by decide) (by decide) (by decide) (by decide) (by decide) w
      (fun b W c0 c1 c2 c3 => ⟨neg _ (by omega) b W, neg _ (by omega) b W, neg _ (by omega) b W, part_at 0 b _ (by omega) (by omega) W c0, part_at 1 b _ (by omega) (by omega) W c1⟩) hS
  · rw [← hx (n4 0 0 0 a0 * 2 ^ (m % 64)) (6277101735386680763835789423207666416102355444464034512896 * 2 ^ (m % 64)) (by rw [← Nat.mul_assoc, ← Nat.mod_mul_mod, ← Nat.mod_mul_mod (n4 a0 a1 a2 a3 * _)]; congr 2; unfold n4; omega) (by rw [show (6277101735386680763835789423207666416102355444464034512896 : Nat) = 2 ^ 192 by decide, ← Nat.pow_add]; congr 1; omega)]
    exact shl_parts k0 k1 k2 k3 a0 a1 a2 a3 0 0 0 a0 (m % 64) (64 - m % 64) 3 (-4) (-3) (-2) (-1) 0 hst hs (by omega) (by omega) (by omega) (by decide) (by decide) (by decide) (by decide) (by decide) (by decide) (by decide) (by decide) w
      (fun b W c0 c1 c2 c3 => ⟨neg _ (by omega) b W, neg _ (by omega) b W, neg _ (by omega) b W, neg _ (by omega) b W, part_at 0 b _ (by omega) (by omega) W c0⟩) hS
  · have hm0 : m % 64 = 0 := by omega
    rw [← hx (n4 0 0 0 0 * 2 ^ (m % 64)) (115792089237316195423570985008687907853269984665640564039457584007913129639936 * 2 ^ (m % 64)) (by rw [← Nat.mul_assoc, ← Nat.mod_mul_mod, ← Nat.mod_mul_mod (n4 a0 a1 a2 a3 * _)]; congr 2; unfold n4; omega) (by rw [show (115792089237316195423570985008687907853269984665640564039457584007913129639936 : Nat) = 2 ^ 256 by decide, ← Nat.pow_add]; congr 1; omega)]
    exact shl_parts k0 k1 k2 k3 a0 a1 a2 a3 0 0 0 0 (m % 64) (64 - m % 64) 4 (-5) (-4) (-3) (-2) (-1) hst hs (by omega) (by omega) (by omega) (by decide) (by decide) (by decide) (by decide) (by decide) (by decide) (by decide) (by decide) w
      (fun b W c0 c1 c2 c3 => ⟨neg _ (by omega) b W, neg _ (by omega) b W, neg _ (by omega) b W, neg _ (by omega) b W, neg _ (by omega) b W⟩) hS
end Go.Proofs.YthfadinocadhaaaDoor
namespace Go.Proofs.YthfadinocadhaaaDoor
open Go.RowKit

theorem down_at (i b c : Nat) (v : Value) (h0 : (0 : Int) ≤ i) (h : (i : Int) < 4) (w : World) (hc : w.cell? ⟨b, i, none⟩ = some v) : Calls Tryd.prog 98 #[.int .i64 i, .pointer (some ⟨b, 0, none⟩), .pointer (some ⟨c, 0, none⟩)] w fun e w' => e = .returned v ∧ w' = w := by
  go_enter Tryd.func98, Tryd.ntmps98
  go_wp2
  go_ret
  exact ⟨rfl, rfl⟩
theorem down_past (i : Int) (b c : Nat) (v : Value) (h : 4 ≤ i) (w : World) (hc : w.cell? ⟨c, 0, none⟩ = some v) : Calls Tryd.prog 98 #[.int .i64 i, .pointer (some ⟨b, 0, none⟩), .pointer (some ⟨c, 0, none⟩)] w fun e w' => e = .returned v ∧ w' = w := by
  have h' : ¬ i < 4 := by omega
  go_enter Tryd.func98, Tryd.ntmps98
  go_wp2
  go_ret
  exact ⟨rfl, rfl⟩

set_option maxRecDepth 100000 in
set_option maxHeartbeats 2000000 in
theorem down_walk (k0 k1 k2 k3 a0 a1 a2 a3 f p0 p1 p2 p3 p4 s t : Nat) (wh j0 j1 j2 j3 j4 : Int) (h0 : (0 : Int) ≤ s) (h64 : (s : Int) < 64)
    (ht : IntKind.i64.wrap (64 - (s : Int)) = (t : Int)) (ht64 : (t : Int) ≤ 64)
    (e0 : IntKind.i64.wrap wh = j0) (e1 : IntKind.i64.wrap (1 + wh) = j1) (e2 : IntKind.i64.wrap (2 + wh) = j2) (e3 : IntKind.i64.wrap (3 + wh) = j3)
    (g0 : IntKind.i64.wrap (j0 + 1) = j1) (g1 : IntKind.i64.wrap (j1 + 1) = j2) (g2 : IntKind.i64.wrap (j2 + 1) = j3) (g3 : IntKind.i64.wrap (j3 + 1) = j4) (w : World)
    (hC : ∀ (b c : Nat) (W : World), W.cell? ⟨b, 0, none⟩ = some (.int .u64 a0) → W.cell? ⟨b, 1, none⟩ = some (.int .u64 a1) → W.cell? ⟨b, 2, none⟩ = some (.int .u64 a2) → W.cell? ⟨b, 3, none⟩ = some (.int .u64 a3) → W.cell? ⟨c, 0, none⟩ = some (.int .u64 f) →
      (Calls Tryd.prog 98 #[.int .i64 j0, .pointer (some ⟨b, 0, none⟩), .pointer (some ⟨c, 0, none⟩)] W fun e w' => e = .returned (.int .u64 p0) ∧ w' = W) ∧
      (Calls Tryd.prog 98 #[.int .i64 j1, .pointer (some ⟨b, 0, none⟩), .pointer (some ⟨c, 0, none⟩)] W fun e w' => e = .returned (.int .u64 p1) ∧ w' = W) ∧
      (Calls Tryd.prog 98 #[.int .i64 j2, .pointer (some ⟨b, 0, none⟩), .pointer (some ⟨c, 0, none⟩)] W fun e w' => e = .returned (.int .u64 p2) ∧ w' = W) ∧
      (Calls Tryd.prog 98 #[.int .i64 j3, .pointer (some ⟨b, 0, none⟩), .pointer (some ⟨c, 0, none⟩)] W fun e w' => e = .returned (.int .u64 p3) ∧ w' = W) ∧
      (Calls Tryd.prog 98 #[.int .i64 j4, .pointer (some ⟨b, 0, none⟩), .pointer (some ⟨c, 0, none⟩)] W fun e w' => e = .returned (.int .u64 p4) ∧ w' = W))
    (hS : ∀ w, Calls Tryd.prog 80 #[.agg #[.int .u64 k0, .int .u64 k1, .int .u64 k2, .int .u64 k3]] w fun e w' => e = .returned (.tuple #[.int .i64 wh, .int .i64 s]) ∧ Below w.heap.size w w') :
    Calls Tryd.prog 83 #[.agg #[.int .u64 k0, .int .u64 k1, .int .u64 k2, .int .u64 k3], .agg #[.int .u64 a0, .int .u64 a1, .int .u64 a2, .int .u64 a3], .int .u64 f] w fun e w' =>
      e = .returned (.agg #[.int .u64 (bits .or .u64 ((p0 : Int) / 2 ^ s) (IntKind.u64.wrap ((p1 : Int) * 2 ^ t))), .int .u64 (bits .or .u64 ((p1 : Int) / 2 ^ s) (IntKind.u64.wrap ((p2 : Int) * 2 ^ t))), .int .u64 (bits .or .u64 ((p2 : Int) / 2 ^ s) (IntKind.u64.wrap ((p3 : Int) * 2 ^ t))), .int .u64 (bits .or .u64 ((p3 : Int) / 2 ^ s) (IntKind.u64.wrap ((p4 : Int) * 2 ^ t)))]) ∧ Below w.heap.size w w' := by
  have HC := Lib.hid hC; clear hC
  have E0 := Lib.hid e0; clear e0
  have G0 := Lib.hid g0; clear g0
  have G1 := Lib.hid g1; clear g1
  have G2 := Lib.hid g2; clear g2
  have G3 := Lib.hid g3; clear g3
  go_enter Tryd.func83, Tryd.ntmps83
  go_wp2_with fail
  refine (hS _).mono ?_
  rintro e w1 ⟨rfl, hb⟩
  obtain ⟨x0, -, -⟩ := after1 (b := w.heap.size + 1) (i := 0) (v := .int .u64 a0) hb (by simp) (by go_cell) (by go_cell)
  obtain ⟨x1, -, -⟩ := after1 (b := w.heap.size + 1) (i := 1) (v := .int .u64 a1) hb (by simp) (by go_cell) (by go_cell)
  obtain ⟨x2, -, -⟩ := after1 (b := w.heap.size + 1) (i := 2) (v := .int .u64 a2) hb (by simp) (by go_cell) (by go_cell)
  obtain ⟨x3, -, -⟩ := after1 (b := w.heap.size + 1) (i := 3) (v := .int .u64 a3) hb (by simp) (by go_cell) (by go_cell)
  obtain ⟨x4, -, -⟩ := after1 (b := w.heap.size + 1 + 1) (i := 0) (v := .int .u64 f) hb (by simp) (by go_cell) (by go_cell)
  obtain ⟨⟨q0, q1, q2, q3⟩, ⟨f0, f1, f2, f3⟩, hz, hb'⟩ := after4 (w := w) (B := w.heap.size) (w.heap.size + 1 + 1 + 1) hb (by go_grown) (by simp; omega) (by simp) (by go_cell) (by go_cell) (by go_cell) (by go_cell) (by go_cell) (by go_cell) (by go_cell) (by go_cell)
  clear hb
  have hz1 : w.heap.size + 1 < w1.heap.size := by omega
  have hz2 : w.heap.size + 1 + 1 < w1.heap.size := by omega
  go_wp2
  refine wp_loop_rounds 5 ?_
  rw [rounds_succ]; go_wp2
  refine region_still 19 (by kernel_rfl) (by kernel_rfl) ?_
  simp only [List.take_succ_cons, List.take_zero, List.drop_succ_cons, List.drop_zero]
  have e0 := E0.out
  repeat still_step
  still_call (HC.out (w.heap.size + 1) (w.heap.size + 1 + 1) _ (by go_cell) (by go_cell) (by go_cell) (by go_cell) (by go_cell)).1
  have g := G0.out
  repeat still_step
  clear g
  clear e0
  still_call (HC.out (w.heap.size + 1) (w.heap.size + 1 + 1) _ (by go_cell) (by go_cell) (by go_cell) (by go_cell) (by go_cell)).2.1
  repeat still_step
  refine wpStill_nil ?_
  go_wp2
  rw [rounds_succ]; go_wp2
  refine region_still 19 (by kernel_rfl) (by kernel_rfl) ?_
  simp only [List.take_succ_cons, List.take_zero, List.drop_succ_cons, List.drop_zero]
  repeat still_step
  still_call (HC.out (w.heap.size + 1) (w.heap.size + 1 + 1) _ (by go_cell) (by go_cell) (by go_cell) (by go_cell) (by go_cell)).2.1
  have g := G1.out
  repeat still_step
  clear g
  still_call (HC.out (w.heap.size + 1) (w.heap.size + 1 + 1) _ (by go_cell) (by go_cell) (by go_cell) (by go_cell) (by go_cell)).2.2.1
  repeat still_step
  refine wpStill_nil ?_
  go_wp2
  rw [rounds_succ]; go_wp2
  refine region_still 19 (by kernel_rfl) (by kernel_rfl) ?_
  simp only [List.take_succ_cons, List.take_zero, List.drop_succ_cons, List.drop_zero]
  repeat still_step
  still_call (HC.out (w.heap.size + 1) (w.heap.size + 1 + 1) _ (by go_cell) (by go_cell) (by go_cell) (by go_cell) (by go_cell)).2.2.1
  have g := G2.out
  repeat still_step
  clear g
  still_call (HC.out (w.heap.size + 1) (w.heap.size + 1 + 1) _ (by go_cell) (by go_cell) (by go_cell) (by go_cell) (by go_cell)).2.2.2.1
  repeat still_step
  refine wpStill_nil ?_
  go_wp2
  rw [rounds_succ]; go_wp2
  refine region_still 19 (by kernel_rfl) (by kernel_rfl) ?_
  simp only [List.take_succ_cons, List.take_zero, List.drop_succ_cons, List.drop_zero]
  repeat still_step
  still_call (HC.out (w.heap.size + 1) (w.heap.size + 1 + 1) _ (by go_cell) (by go_cell) (by go_cell) (by go_cell) (by go_cell)).2.2.2.1
  have g := G3.out
  repeat still_step
  clear g
  still_call (HC.out (w.heap.size + 1) (w.heap.size + 1 + 1) _ (by go_cell) (by go_cell) (by go_cell) (by go_cell) (by go_cell)).2.2.2.2
  repeat still_step
  refine wpStill_nil ?_
  go_wp2
  rw [rounds_succ]; go_wp2
  refine bodyPost_ret (by simp [results, Tryd.results83, go_sem, hz, q0, q1, q2, q3]; try rfl) rfl ⟨rfl, ?_⟩
  go_grown
end Go.Proofs.YthfadinocadhaaaDoor
namespace Go.Proofs.YthfadinocadhaaaDoor
open Go.RowKit

/-- Both halves of all ones, shifted down alike, are all ones together. -/
theorem comp_down {p q s t : Nat} (hp : p < 18446744073709551616) (hq : q < 18446744073709551616) (h : s + t = 64) :
    p / 2 ^ s + q * 2 ^ t % 18446744073709551616 + ((18446744073709551615 - p) / 2 ^ s + (18446744073709551615 - q) * 2 ^ t % 18446744073709551616) = 18446744073709551615 := by
  have hD := pow_split h
  have hS : 0 < 2 ^ s := Nat.two_pow_pos s
  have hT : 0 < 2 ^ t := Nat.two_pow_pos t
  have e : ∀ y, y * 2 ^ t % 18446744073709551616 = 2 ^ t * (y % 2 ^ s) := fun y => by
    rw [← hD, Nat.mul_comm (2 ^ s), Nat.mul_comm y, Nat.mul_mod_mul_left]
  rw [e, e]
  -- p and what it lacks, by 2^s
  have d1 : (18446744073709551615 - p) / 2 ^ s = 2 ^ t - 1 - p / 2 ^ s := by
    have hp' : p < 2 ^ s * 2 ^ t := by omega
    have h2 : 18446744073709551615 - p = 2 ^ s * (2 ^ t - 1 - p / 2 ^ s) + (2 ^ s - 1 - p % 2 ^ s) := by
      have hm := Nat.div_add_mod p (2 ^ s)
      have hl : p / 2 ^ s < 2 ^ t := by rw [Nat.div_lt_iff_lt_mul hS, Nat.mul_comm]; exact hp'
      have hr := Nat.mod_lt p hS
      have : 2 ^ s * (2 ^ t - 1 - p / 2 ^ s) + 2 ^ s * (p / 2 ^ s) + 2 ^ s = 2 ^ s * 2 ^ t := by
        rw [← Nat.mul_add, ← Nat.mul_succ]; congr 1; omega
      omega
    have hr := Nat.mod_lt p hS
    rw [h2, Nat.mul_add_div hS, Nat.div_eq_of_lt (show 2 ^ s - 1 - p % 2 ^ s < 2 ^ s by omega), Nat.add_zero]
  have d2 : (18446744073709551615 - q) % 2 ^ s = 2 ^ s - 1 - q % 2 ^ s := by
    have hq' : q < 2 ^ s * 2 ^ t := by omega
    have h2 : 18446744073709551615 - q = 2 ^ s * (2 ^ t - 1 - q / 2 ^ s) + (2 ^ s - 1 - q % 2 ^ s) := by
      have hm := Nat.div_add_mod q (2 ^ s)
      have hl : q / 2 ^ s < 2 ^ t := by rw [Nat.div_lt_iff_lt_mul hS, Nat.mul_comm]; exact hq'
      have hr := Nat.mod_lt q hS
      have : 2 ^ s * (2 ^ t - 1 - q / 2 ^ s) + 2 ^ s * (q / 2 ^ s) + 2 ^ s = 2 ^ s * 2 ^ t := by
        rw [← Nat.mul_add, ← Nat.mul_succ]; congr 1; omega
      omega
    have hr := Nat.mod_lt q hS
    rw [h2, Nat.mul_add_mod, Nat.mod_eq_of_lt (by omega)]
  rw [d1, d2]
  have hl : p / 2 ^ s < 2 ^ t := by rw [Nat.div_lt_iff_lt_mul hS, Nat.mul_comm, hD]; exact hp
  have hr := Nat.mod_lt q hS
  have : 2 ^ t * (q % 2 ^ s) + 2 ^ t * (2 ^ s - 1 - q % 2 ^ s) + 2 ^ t = 2 ^ s * 2 ^ t := by
    rw [← Nat.mul_add, ← Nat.mul_succ, Nat.mul_comm (2 ^ s)]; congr 1; omega
  omega

theorem down_lt {p q s t : Nat} (hp : p < 18446744073709551616) (h : s + t = 64) : p / 2 ^ s + q * 2 ^ t % 18446744073709551616 < 18446744073709551616 := by
  have hD := pow_split h
  have hS : 0 < 2 ^ s := Nat.two_pow_pos s
  have hps : p / 2 ^ s < 2 ^ t := by rw [Nat.div_lt_iff_lt_mul hS, Nat.mul_comm, hD]; exact hp
  have e : q * 2 ^ t % 18446744073709551616 = 2 ^ t * (q % 2 ^ s) := by
    rw [← hD, Nat.mul_comm (2 ^ s), Nat.mul_comm q, Nat.mul_mod_mul_left]
  have hr := Nat.mod_lt q hS
  have : 2 ^ t * (q % 2 ^ s) + 2 ^ t ≤ 2 ^ s * 2 ^ t := by
    rw [← Nat.mul_succ, Nat.mul_comm (2 ^ s)]; exact Nat.mul_le_mul_left _ hr
  omega

/-- The walk, by numbers. -/
theorem down_parts (k0 k1 k2 k3 a0 a1 a2 a3 f p0 p1 p2 p3 p4 s t : Nat) (wh j0 j1 j2 j3 j4 : Int) (hst : s + t = 64) (hs : s < 64)
    (u0 : p0 < 18446744073709551616) (u1 : p1 < 18446744073709551616) (u2 : p2 < 18446744073709551616) (u3 : p3 < 18446744073709551616)
    (e0 : IntKind.i64.wrap wh = j0) (e1 : IntKind.i64.wrap (1 + wh) = j1) (e2 : IntKind.i64.wrap (2 + wh) = j2) (e3 : IntKind.i64.wrap (3 + wh) = j3)
    (g0 : IntKind.i64.wrap (j0 + 1) = j1) (g1 : IntKind.i64.wrap (j1 + 1) = j2) (g2 : IntKind.i64.wrap (j2 + 1) = j3) (g3 : IntKind.i64.wrap (j3 + 1) = j4) (w : World)
    (hC : ∀ (b c : Nat) (W : World), W.cell? ⟨b, 0, none⟩ = some (.int .u64 a0) → W.cell? ⟨b, 1, none⟩ = some (.int .u64 a1) → W.cell? ⟨b, 2, none⟩ = some (.int .u64 a2) → W.cell? ⟨b, 3, none⟩ = some (.int .u64 a3) → W.cell? ⟨c, 0, none⟩ = some (.int .u64 f) →
      (Calls Tryd.prog 98 #[.int .i64 j0, .pointer (some ⟨b, 0, none⟩), .pointer (some ⟨c, 0, none⟩)] W fun e w' => e = .returned (.int .u64 p0) ∧ w' = W) ∧
      (Calls Tryd.prog 98 #[.int .i64 j1, .pointer (some ⟨b, 0, none⟩), .pointer (some ⟨c, 0, none⟩)] W fun e w' => e = .returned (.int .u64 p1) ∧ w' = W) ∧
      (Calls Tryd.prog 98 #[.int .i64 j2, .pointer (some ⟨b, 0, none⟩), .pointer (some ⟨c, 0, none⟩)] W fun e w' => e = .returned (.int .u64 p2) ∧ w' = W) ∧
      (Calls Tryd.prog 98 #[.int .i64 j3, .pointer (some ⟨b, 0, none⟩), .pointer (some ⟨c, 0, none⟩)] W fun e w' => e = .returned (.int .u64 p3) ∧ w' = W) ∧
      (Calls Tryd.prog 98 #[.int .i64 j4, .pointer (some ⟨b, 0, none⟩), .pointer (some ⟨c, 0, none⟩)] W fun e w' => e = .returned (.int .u64 p4) ∧ w' = W))
    (hS : ∀ w, Calls Tryd.prog 80 #[.agg #[.int .u64 k0, .int .u64 k1, .int .u64 k2, .int .u64 k3]] w fun e w' => e = .returned (.tuple #[.int .i64 wh, .int .i64 s]) ∧ Below w.heap.size w w') :
    Calls Tryd.prog 83 #[.agg #[.int .u64 k0, .int .u64 k1, .int .u64 k2, .int .u64 k3], .agg #[.int .u64 a0, .int .u64 a1, .int .u64 a2, .int .u64 a3], .int .u64 f] w fun e w' =>
      e = .returned (wv (n4 (p0 / 2 ^ s + p1 * 2 ^ t % 18446744073709551616) (p1 / 2 ^ s + p2 * 2 ^ t % 18446744073709551616) (p2 / 2 ^ s + p3 * 2 ^ t % 18446744073709551616) (p3 / 2 ^ s + p4 * 2 ^ t % 18446744073709551616))) ∧ Below w.heap.size w w' := by
  have ht : IntKind.i64.wrap (64 - (s : Int)) = (t : Int) := by rw [IntKind.wrap_i64]; omega
  have h := down_walk k0 k1 k2 k3 a0 a1 a2 a3 f p0 p1 p2 p3 p4 s t wh j0 j1 j2 j3 j4 (by omega) (by omega) ht (by omega) e0 e1 e2 e3 g0 g1 g2 g3 w hC hS
  rw [cmb_down (p := p0) (q := p1) u0 hst, cmb_down (p := p1) (q := p2) u1 hst, cmb_down (p := p2) (q := p3) u2 hst, cmb_down (p := p3) (q := p4) u3 hst,
    ← wv_n4 (down_lt u0 hst) (down_lt u1 hst) (down_lt u2 hst) (down_lt u3 hst)] at h
  exact h

/-- What the parts come to at each distance: a is a word's part or, above them, f. -/
def sel (a0 a1 a2 a3 f : Nat) (i : Nat) : Nat := match i with | 0 => a0 | 1 => a1 | 2 => a2 | 3 => a3 | _ => f

theorem down_sel (k x m f : Nat) (a0 a1 a2 a3 : Nat) (hf : f < 18446744073709551616) (u0 : a0 < 18446744073709551616) (u1 : a1 < 18446744073709551616) (u2 : a2 < 18446744073709551616) (u3 : a3 < 18446744073709551616) (hm : m ≤ 256)
    (ea : wv x = .agg #[.int .u64 a0, .int .u64 a1, .int .u64 a2, .int .u64 a3])
    (hS : ∀ w, Calls Tryd.prog 80 #[wv k] w fun e w' => e = .returned (.tuple #[.int .i64 ((m / 64 : Nat) : Int), .int .i64 ((m % 64 : Nat) : Int)]) ∧ Below w.heap.size w w') (w : World) :
    Calls Tryd.prog 83 #[wv k, wv x, .int .u64 f] w fun e w' =>
      e = .returned (wv (n4 (sel a0 a1 a2 a3 f (m / 64) / 2 ^ (m % 64) + sel a0 a1 a2 a3 f (m / 64 + 1) * 2 ^ (64 - m % 64) % 18446744073709551616) (sel a0 a1 a2 a3 f (m / 64 + 1) / 2 ^ (m % 64) + sel a0 a1 a2 a3 f (m / 64 + 2) * 2 ^ (64 - m % 64) % 18446744073709551616)
        (sel a0 a1 a2 a3 f (m / 64 + 2) / 2 ^ (m % 64) + sel a0 a1 a2 a3 f (m / 64 + 3) * 2 ^ (64 - m % 64) % 18446744073709551616) (sel a0 a1 a2 a3 f (m / 64 + 3) / 2 ^ (m % 64) + f * 2 ^ (64 - m % 64) % 18446744073709551616))) ∧ Below w.heap.size w w' := by
  obtain ⟨k0, k1, k2, k3, -, -, -, -, ek, -⟩ := wv_parts k
  rw [ek] at hS
  rw [ek, ea]
  have hst : m % 64 + (64 - m % 64) = 64 := by omega
  have hs : m % 64 < 64 := by omega
  have hw : m / 64 = 0 ∨ m / 64 = 1 ∨ m / 64 = 2 ∨ m / 64 = 3 ∨ m / 64 = 4 := by omega
  have past := fun (i : Int) (hi : 4 ≤ i) (b c : Nat) (W : World) (h : W.cell? ⟨c, 0, none⟩ = some (.int .u64 f)) => down_past i b c _ hi W h
  rcases hw with h | h | h | h | h
  all_goals rw [h] at hS ⊢
  · exact down_parts k0 k1 k2 k3 a0 a1 a2 a3 f a0 a1 a2 a3 f (m % 64) (64 - m % 64) 0 0 1 2 3 4 hst hs u0 u1 u2 u3 (by decide) (by decide) (by decide) (by decide) (by decide) (by decide) (by decide) (by decide) w
      (fun b c W c0 c1 c2 c3 cf => ⟨down_at 0 b c _ (by omega) (by omega) W c0, down_at 1 b c _ (by omega) (by omega) W c1, down_at 2 b c _ (by omega) (by omega) W c2, down_at 3 b c _ (by omega) (by omega) W c3, past 4 (by omega) b c W cf⟩) hS
  · exact down_parts k0 k1 k2 k3 a0 a1 a2 a3 f a1 a2 a3 f f (m % 64) (64 - m % 64) 1 1 2 3 4 5 hst hs u1 u2 u3 hf (by decide) (by decide) (by decide) (by decide) (by decide) (by decide) (by decide) (by decide) w
      (fun b c W c0 c1 c2 c3 cf => ⟨down_at 1 b c _ (by omega) (by omega) W c1, down_at 2 b c _ (by omega) (by omega) W c2, down_at 3 b c _ (by omega) (by omega) W c3, past 4 (by omega) b c W cf, past 5 (by omega) b c W cf⟩) hS
  · exact down_parts k0 k1 k2 k3 a0 a1 a2 a3 f a2 a3 f f f (m % 64) (64 - m % 64) 2 2 3 4 5 6 hst hs u2 u3 hf hf (by decide) (by decide) (by decide) (by decide) (by decide) (by decide) (by decide) (by decide) w
      (fun b c W c0 c1 c2 c3 cf => ⟨down_at 2 b c _ (by omega) (by omega) W c2, down_at 3 b c _ (by omega) (by omega) W c3, past 4 (by omega) b c W cf, past 5 (by omega) b c W cf, past 6 (by omega) b c W cf⟩) hS
  · exact down_parts k0 k1 k2 k3 a0 a1 a2 a3 f a3 f f f f (m % 64) (64 - m % 64) 3 3 4 5 6 7 hst hs u3 hf hf hf (by decide) (by decide) (by decide) (by decide) (by decide) (by decide) (by decide) (by decide) w
      (fun b c W c0 c1 c2 c3 cf => ⟨down_at 3 b c _ (by omega) (by omega) W c3, past 4 (by omega) b c W cf, past 5 (by omega) b c W cf, past 6 (by omega) b c W cf, past 7 (by omega) b c W cf⟩) hS
  · exact down_parts k0 k1 k2 k3 a0 a1 a2 a3 f f f f f f (m % 64) (64 - m % 64) 4 4 5 6 7 8 hst hs hf hf hf hf (by decide) (by decide) (by decide) (by decide) (by decide) (by decide) (by decide) (by decide) w
      (fun b c W c0 c1 c2 c3 cf => ⟨past 4 (by omega) b c W cf, past 5 (by omega) b c W cf, past 6 (by omega) b c W cf, past 7 (by omega) b c W cf, past 8 (by omega) b c W cf⟩) hS

theorem n4_sel (a0 a1 a2 a3 : Nat) (u0 : a0 < 18446744073709551616) (u1 : a1 < 18446744073709551616) (u2 : a2 < 18446744073709551616) (u3 : a3 < 18446744073709551616) (i : Nat) (hi : i ≤ 4) :
    n4 (sel a0 a1 a2 a3 0 i) (sel a0 a1 a2 a3 0 (i + 1)) (sel a0 a1 a2 a3 0 (i + 2)) (sel a0 a1 a2 a3 0 (i + 3)) = n4 a0 a1 a2 a3 / 2 ^ (64 * i) := by
  have hw : i = 0 ∨ i = 1 ∨ i = 2 ∨ i = 3 ∨ i = 4 := by omega
  rcases hw with rfl | rfl | rfl | rfl | rfl <;> simp only [sel, Nat.reduceMul, Nat.reducePow, Nat.reduceAdd] <;> unfold n4 <;> omega

-- WHAT shiftDown COMES TO, noughts from above.
theorem down0_any (k x : Nat) (w : World) :
    Calls Tryd.prog 83 #[wv k, wv x, .int .u64 0] w fun e w' => e = .returned (wv (x % 115792089237316195423570985008687907853269984665640564039457584007913129639936 / 2 ^ min (k % 115792089237316195423570985008687907853269984665640564039457584007913129639936) 256)) ∧ Below w.heap.size w w' := by
  have hS := fun w => steps_any k w
  obtain ⟨a0, a1, a2, a3, u0, u1, u2, u3, ea, na⟩ := wv_parts x
  generalize hm : min (k % 115792089237316195423570985008687907853269984665640564039457584007913129639936) 256 = m at *
  have hm256 : m ≤ 256 := by omega
  clear hm
  have h := down_sel k x m 0 a0 a1 a2 a3 (by omega) u0 u1 u2 u3 hm256 ea hS w
  rw [n4_down _ _ _ _ 0 (show m % 64 + (64 - m % 64) = 64 by omega), n4_sel a0 a1 a2 a3 u0 u1 u2 u3 _ (by omega), na, Nat.div_div_eq_div_mul, ← Nat.pow_add, show 64 * (m / 64) + m % 64 = m by omega, Nat.zero_mul] at h
  exact h

theorem n4_comp {c0 c1 c2 c3 d0 d1 d2 d3 : Nat} (h0 : c0 + d0 = 18446744073709551615) (h1 : c1 + d1 = 18446744073709551615) (h2 : c2 + d2 = 18446744073709551615) (h3 : c3 + d3 = 18446744073709551615) : n4 c0 c1 c2 c3 = 115792089237316195423570985008687907853269984665640564039457584007913129639935 - n4 d0 d1 d2 d3 := by unfold n4; omega
theorem sel_comp (a0 a1 a2 a3 i : Nat) (u0 : a0 < 18446744073709551616) (u1 : a1 < 18446744073709551616) (u2 : a2 < 18446744073709551616) (u3 : a3 < 18446744073709551616) : sel a0 a1 a2 a3 18446744073709551615 i < 18446744073709551616 ∧ 18446744073709551615 - sel a0 a1 a2 a3 18446744073709551615 i = sel (18446744073709551615 - a0) (18446744073709551615 - a1) (18446744073709551615 - a2) (18446744073709551615 - a3) 0 i := by
  unfold sel
  split <;> omega

-- WHAT shiftDown COMES TO, ones from above.
theorem down1_any (k x : Nat) (w : World) :
    Calls Tryd.prog 83 #[wv k, wv x, .int .u64 18446744073709551615] w fun e w' => e = .returned (wv (115792089237316195423570985008687907853269984665640564039457584007913129639935 - (115792089237316195423570985008687907853269984665640564039457584007913129639935 - x % 115792089237316195423570985008687907853269984665640564039457584007913129639936) / 2 ^ min (k % 115792089237316195423570985008687907853269984665640564039457584007913129639936) 256)) ∧ Below w.heap.size w w' := by
  have hS := fun w => steps_any k w
  obtain ⟨a0, a1, a2, a3, u0, u1, u2, u3, ea, na⟩ := wv_parts x
  generalize hm : min (k % 115792089237316195423570985008687907853269984665640564039457584007913129639936) 256 = m at *
  have hm256 : m ≤ 256 := by omega
  clear hm
  have h := down_sel k x m 18446744073709551615 a0 a1 a2 a3 (by omega) u0 u1 u2 u3 hm256 ea hS w
  have hst : m % 64 + (64 - m % 64) = 64 := by omega
  have S := fun i => sel_comp a0 a1 a2 a3 i u0 u1 u2 u3
  have C := fun i j => comp_down (p := sel a0 a1 a2 a3 18446744073709551615 i) (q := sel a0 a1 a2 a3 18446744073709551615 j) (S i).1 (S j).1 hst
  have C4 := comp_down (p := sel a0 a1 a2 a3 18446744073709551615 (m / 64 + 3)) (q := 18446744073709551615) (S _).1 (by omega) hst
  rw [n4_comp (C _ _) (C _ _) (C _ _) C4] at h
  simp only [(S _).2] at h
  rw [show 18446744073709551615 - 18446744073709551615 = 0 by omega] at h
  rw [n4_down _ _ _ _ 0 hst, n4_sel _ _ _ _ (by omega) (by omega) (by omega) (by omega) _ (by omega), Nat.div_div_eq_div_mul, ← Nat.pow_add, show 64 * (m / 64) + m % 64 = m by omega, Nat.zero_mul,
    show n4 (18446744073709551615 - a0) (18446744073709551615 - a1) (18446744073709551615 - a2) (18446744073709551615 - a3) = 115792089237316195423570985008687907853269984665640564039457584007913129639935 - x % 115792089237316195423570985008687907853269984665640564039457584007913129639936 by rw [← na]; unfold n4; omega] at h
  exact h
end Go.Proofs.YthfadinocadhaaaDoor
namespace Go.Proofs.YthfadinocadhaaaDoor
open Go.RowKit

set_option maxRecDepth 100000 in
set_option maxHeartbeats 400000 in
theorem isNeg_walk (a0 a1 a2 a3 : Nat) (w : World) :
    Calls Tryd.prog 77 #[.agg #[.int .u64 a0, .int .u64 a1, .int .u64 a2, .int .u64 a3]] w fun e w' => e = .returned (.bool ((a3 : Int) / 9223372036854775808 == 1)) ∧ Below w.heap.size w w' := by
  go_enter Tryd.func77, Tryd.ntmps77
  go_wp2
  go_ret
  exact ⟨rfl, by go_grown⟩

theorem bdec {p q : Prop} [Decidable p] [Decidable q] (h : p ↔ q) : decide p = decide q := by simp [h]

-- WHAT isNegative COMES TO.
theorem isNeg_any (x : Nat) (w : World) :
    Calls Tryd.prog 77 #[wv x] w fun e w' => e = .returned (.bool (decide (57896044618658097711785492504343953926634992332820282019728792003956564819968 ≤ x % 115792089237316195423570985008687907853269984665640564039457584007913129639936))) ∧ Below w.heap.size w w' := by
  obtain ⟨a0, a1, a2, a3, u0, u1, u2, u3, ea, na⟩ := wv_parts x
  rw [ea, ← na]
  have e : decide (57896044618658097711785492504343953926634992332820282019728792003956564819968 ≤ n4 a0 a1 a2 a3) = ((a3 : Int) / 9223372036854775808 == 1) := by
    have : (57896044618658097711785492504343953926634992332820282019728792003956564819968 ≤ n4 a0 a1 a2 a3) ↔ ((a3 : Int) / 9223372036854775808 = 1) := by unfold n4; omega
    rw [show ((a3 : Int) / 9223372036854775808 == 1) = decide ((a3 : Int) / 9223372036854775808 = 1) from rfl]
    exact bdec this
  rw [e]
  exact isNeg_walk a0 a1 a2 a3 w

theorem xor_ones {a : Nat} (h : a < 18446744073709551616) : bits .xor .u64 IntKind.u64.max (a : Int) = ((18446744073709551615 - a : Nat) : Int) := by
  have e : (18446744073709551615 : Nat) ^^^ a = 18446744073709551615 - a := by
    apply Nat.eq_of_testBit_eq
    intro i
    rw [Nat.testBit_xor, show 18446744073709551615 - a = 2 ^ 64 - (a + 1) by omega, Nat.testBit_two_pow_sub_succ (by omega), show (18446744073709551615 : Nat) = 2 ^ 64 - 1 by decide, Nat.testBit_two_pow_sub_one]
    by_cases hi : i < 64
    · simp [hi]
    · have : a.testBit i = false := Nat.testBit_lt_two_pow (Nat.lt_of_lt_of_le h (by have := Nat.pow_le_pow_right (n := 2) (by omega) (show 64 ≤ i by omega); omega))
      simp [hi, this]
  have := bits_xor_u64_nat 18446744073709551615 a (by omega) h
  rw [e] at this
  exact this

set_option maxRecDepth 100000 in
set_option maxHeartbeats 1000000 in
theorem not_walk (a0 a1 a2 a3 : Nat) (w : World) :
    Calls Tryd.prog 43 #[.agg #[.int .u64 a0, .int .u64 a1, .int .u64 a2, .int .u64 a3]] w fun e w' => e = .returned (.agg #[.int .u64 (bits .xor .u64 IntKind.u64.max (a0 : Int)), .int .u64 (bits .xor .u64 IntKind.u64.max (a1 : Int)), .int .u64 (bits .xor .u64 IntKind.u64.max (a2 : Int)), .int .u64 (bits .xor .u64 IntKind.u64.max (a3 : Int))]) ∧ Below w.heap.size w w' := by
  go_enter Tryd.func43, Tryd.ntmps43
  go_wp2
  refine wp_loop_rounds 5 ?_
  iterate 4 (rw [rounds_succ]; go_wp2)
  rw [rounds_succ]
  go_wp2
  go_returns
  exact ⟨rfl, by go_grown⟩

-- WHAT Not COMES TO.
theorem not_any (x : Nat) (w : World) :
    Calls Tryd.prog 43 #[wv x] w fun e w' => e = .returned (wv (115792089237316195423570985008687907853269984665640564039457584007913129639935 - x % 115792089237316195423570985008687907853269984665640564039457584007913129639936)) ∧ Below w.heap.size w w' := by
  obtain ⟨a0, a1, a2, a3, u0, u1, u2, u3, ea, na⟩ := wv_parts x
  rw [ea, ← na, ← n4_comp (c0 := 18446744073709551615 - a0) (c1 := 18446744073709551615 - a1) (c2 := 18446744073709551615 - a2) (c3 := 18446744073709551615 - a3) (by omega) (by omega) (by omega) (by omega), wv_n4 (by omega) (by omega) (by omega) (by omega), ← xor_ones u0, ← xor_ones u1, ← xor_ones u2, ← xor_ones u3]
  exact not_walk a0 a1 a2 a3 w

set_option maxRecDepth 100000 in
set_option maxHeartbeats 1000000 in
theorem shr_walk (a0 a1 a2 a3 b0 b1 b2 b3 p0 p1 p2 p3 : Nat) (w : World)
    (hP : ∀ w, Calls Tryd.prog 83 #[.agg #[.int .u64 a0, .int .u64 a1, .int .u64 a2, .int .u64 a3], .agg #[.int .u64 b0, .int .u64 b1, .int .u64 b2, .int .u64 b3], .int .u64 0] w fun e w' =>
      e = .returned (.agg #[.int .u64 p0, .int .u64 p1, .int .u64 p2, .int .u64 p3]) ∧ Below w.heap.size w w') :
    Calls Tryd.prog 39 #[.agg #[.int .u64 a0, .int .u64 a1, .int .u64 a2, .int .u64 a3], .agg #[.int .u64 b0, .int .u64 b1, .int .u64 b2, .int .u64 b3]] w fun e w' =>
      e = .returned (.agg #[.int .u64 p0, .int .u64 p1, .int .u64 p2, .int .u64 p3]) ∧ Below w.heap.size w w' := by
  go_enter Tryd.func39, Tryd.ntmps39
  go_wp2_with fail
  refine (hP _).mono ?_
  rintro e w1 ⟨rfl, hb⟩
  obtain ⟨⟨q0, q1, q2, q3⟩, ⟨f0, f1, f2, f3⟩, hz, hb'⟩ := after4 (w := w) (B := w.heap.size) (w.heap.size + 1 + 1) hb (by go_grown) (by simp; omega) (by simp) (by go_cell) (by go_cell) (by go_cell) (by go_cell) (by go_cell) (by go_cell) (by go_cell) (by go_cell)
  clear hb
  go_wp2
  refine bodyPost_ret (by simp [results, Tryd.results39, go_sem, q0, q1, q2, q3]; try rfl) rfl ⟨rfl, ?_⟩
  go_grown

-- WHAT Shr COMES TO.
theorem shr_any (k x : Nat) (w : World) :
    Calls Tryd.prog 39 #[wv k, wv x] w fun e w' => e = .returned (wv (x % 115792089237316195423570985008687907853269984665640564039457584007913129639936 / 2 ^ min (k % 115792089237316195423570985008687907853269984665640564039457584007913129639936) 256)) ∧ Below w.heap.size w w' := by
  have hP := fun w => down0_any k x w
  obtain ⟨k0, k1, k2, k3, -, -, -, -, ek, -⟩ := wv_parts k
  obtain ⟨a0, a1, a2, a3, -, -, -, -, ea, -⟩ := wv_parts x
  obtain ⟨p0, p1, p2, p3, -, -, -, -, ep, -⟩ := wv_parts (x % 115792089237316195423570985008687907853269984665640564039457584007913129639936 / 2 ^ min (k % 115792089237316195423570985008687907853269984665640564039457584007913129639936) 256)
  rw [ek, ea, ep] at hP
  rw [ek, ea, ep]
  exact shr_walk k0 k1 k2 k3 a0 a1 a2 a3 p0 p1 p2 p3 w hP

set_option maxRecDepth 100000 in
set_option maxHeartbeats 1000000 in
theorem sar_pos (a0 a1 a2 a3 b0 b1 b2 b3 p0 p1 p2 p3 : Nat) (w : World)
    (hN : ∀ w, Calls Tryd.prog 77 #[.agg #[.int .u64 b0, .int .u64 b1, .int .u64 b2, .int .u64 b3]] w fun e w' => e = .returned (.bool false) ∧ Below w.heap.size w w')
    (hP : ∀ w, Calls Tryd.prog 83 #[.agg #[.int .u64 a0, .int .u64 a1, .int .u64 a2, .int .u64 a3], .agg #[.int .u64 b0, .int .u64 b1, .int .u64 b2, .int .u64 b3], .int .u64 0] w fun e w' =>
      e = .returned (.agg #[.int .u64 p0, .int .u64 p1, .int .u64 p2, .int .u64 p3]) ∧ Below w.heap.size w w') :
    Calls Tryd.prog 41 #[.agg #[.int .u64 a0, .int .u64 a1, .int .u64 a2, .int .u64 a3], .agg #[.int .u64 b0, .int .u64 b1, .int .u64 b2, .int .u64 b3]] w fun e w' =>
      e = .returned (.agg #[.int .u64 p0, .int .u64 p1, .int .u64 p2, .int .u64 p3]) ∧ Below w.heap.size w w' := by
  go_enter Tryd.func41, Tryd.ntmps41
  go_wp2_with fail
  refine (hN _).mono ?_
  rintro e w1 ⟨rfl, hb⟩
  obtain ⟨x0, -, -⟩ := after1 (b := w.heap.size) (i := 0) (v := .int .u64 a0) hb (by simp; omega) (by go_cell) (by go_cell)
  obtain ⟨x1, -, -⟩ := after1 (b := w.heap.size) (i := 1) (v := .int .u64 a1) hb (by simp; omega) (by go_cell) (by go_cell)
  obtain ⟨x2, -, -⟩ := after1 (b := w.heap.size) (i := 2) (v := .int .u64 a2) hb (by simp; omega) (by go_cell) (by go_cell)
  obtain ⟨x3, -, -⟩ := after1 (b := w.heap.size) (i := 3) (v := .int .u64 a3) hb (by simp; omega) (by go_cell) (by go_cell)
  obtain ⟨y0, -, -⟩ := after1 (b := w.heap.size + 1) (i := 0) (v := .int .u64 b0) hb (by simp) (by go_cell) (by go_cell)
  obtain ⟨y1, -, -⟩ := after1 (b := w.heap.size + 1) (i := 1) (v := .int .u64 b1) hb (by simp) (by go_cell) (by go_cell)
  obtain ⟨y2, -, -⟩ := after1 (b := w.heap.size + 1) (i := 2) (v := .int .u64 b2) hb (by simp) (by go_cell) (by go_cell)
  obtain ⟨y3, -, -⟩ := after1 (b := w.heap.size + 1) (i := 3) (v := .int .u64 b3) hb (by simp) (by go_cell) (by go_cell)
  obtain ⟨⟨q0, q1, q2, q3⟩, ⟨f0, f1, f2, f3⟩, hz, hb'⟩ := after4 (w := w) (B := w.heap.size) (w.heap.size + 1 + 1) hb (by go_grown) (by simp; omega) (by simp) (by go_cell) (by go_cell) (by go_cell) (by go_cell) (by go_cell) (by go_cell) (by go_cell) (by go_cell)
  clear hb
  go_wp2_with fail
  refine (hP _).mono ?_
  rintro e w2 ⟨rfl, hb⟩
  obtain ⟨⟨r0, r1, r2, r3⟩, ⟨g0, g1, g2, g3⟩, hy, hb''⟩ := after4 (w := w) (B := w.heap.size) (w.heap.size + 1 + 1) hb hb' hb'.size hz q0 q1 q2 q3 f0 f1 f2 f3
  clear hb q0 q1 q2 q3 f0 f1 f2 f3 hz x0 x1 x2 x3 y0 y1 y2 y3
  go_wp2
  refine bodyPost_ret (by simp [results, Tryd.results41, go_sem, r0, r1, r2, r3]; try rfl) rfl ⟨rfl, ?_⟩
  go_grown

set_option maxRecDepth 100000 in
set_option maxHeartbeats 1000000 in
theorem sar_neg (a0 a1 a2 a3 b0 b1 b2 b3 p0 p1 p2 p3 : Nat) (w : World)
    (hN : ∀ w, Calls Tryd.prog 77 #[.agg #[.int .u64 b0, .int .u64 b1, .int .u64 b2, .int .u64 b3]] w fun e w' => e = .returned (.bool true) ∧ Below w.heap.size w w')
    (hP : ∀ w, Calls Tryd.prog 83 #[.agg #[.int .u64 a0, .int .u64 a1, .int .u64 a2, .int .u64 a3], .agg #[.int .u64 b0, .int .u64 b1, .int .u64 b2, .int .u64 b3], .int .u64 18446744073709551615] w fun e w' =>
      e = .returned (.agg #[.int .u64 p0, .int .u64 p1, .int .u64 p2, .int .u64 p3]) ∧ Below w.heap.size w w') :
    Calls Tryd.prog 41 #[.agg #[.int .u64 a0, .int .u64 a1, .int .u64 a2, .int .u64 a3], .agg #[.int .u64 b0, .int .u64 b1, .int .u64 b2, .int .u64 b3]] w fun e w' =>
      e = .returned (.agg #[.int .u64 p0, .int .u64 p1, .int .u64 p2, .int .u64 p3]) ∧ Below w.heap.size w w' := by
  go_enter Tryd.func41, Tryd.ntmps41
  go_wp2_with fail
  refine (hN _).mono ?_
  rintro e w1 ⟨rfl, hb⟩
  obtain ⟨x0, -, -⟩ := after1 (b := w.heap.size) (i := 0) (v := .int .u64 a0) hb (by simp; omega) (by go_cell) (by go_cell)
  obtain ⟨x1, -, -⟩ := after1 (b := w.heap.size) (i := 1) (v := .int .u64 a1) hb (by simp; omega) (by go_cell) (by go_cell)
  obtain ⟨x2, -, -⟩ := after1 (b := w.heap.size) (i := 2) (v := .int .u64 a2) hb (by simp; omega) (by go_cell) (by go_cell)
  obtain ⟨x3, -, -⟩ := after1 (b := w.heap.size) (i := 3) (v := .int .u64 a3) hb (by simp; omega) (by go_cell) (by go_cell)
  obtain ⟨y0, -, -⟩ := after1 (b := w.heap.size + 1) (i := 0) (v := .int .u64 b0) hb (by simp) (by go_cell) (by go_cell)
  obtain ⟨y1, -, -⟩ := after1 (b := w.heap.size + 1) (i := 1) (v := .int .u64 b1) hb (by simp) (by go_cell) (by go_cell)
  obtain ⟨y2, -, -⟩ := after1 (b := w.heap.size + 1) (i := 2) (v := .int .u64 b2) hb (by simp) (by go_cell) (by go_cell)
  obtain ⟨y3, -, -⟩ := after1 (b := w.heap.size + 1) (i := 3) (v := .int .u64 b3) hb (by simp) (by go_cell) (by go_cell)
  obtain ⟨⟨q0, q1, q2, q3⟩, ⟨f0, f1, f2, f3⟩, hz, hb'⟩ := after4 (w := w) (B := w.heap.size) (w.heap.size + 1 + 1) hb (by go_grown) (by simp; omega) (by simp) (by go_cell) (by go_cell) (by go_cell) (by go_cell) (by go_cell) (by go_cell) (by go_cell) (by go_cell)
  clear hb
  go_wp2_with fail
  refine (hP _).mono ?_
  rintro e w2 ⟨rfl, hb⟩
  obtain ⟨⟨r0, r1, r2, r3⟩, ⟨g0, g1, g2, g3⟩, hy, hb''⟩ := after4 (w := w) (B := w.heap.size) (w.heap.size + 1 + 1) hb hb' hb'.size hz q0 q1 q2 q3 f0 f1 f2 f3
  clear hb q0 q1 q2 q3 f0 f1 f2 f3 hz x0 x1 x2 x3 y0 y1 y2 y3
  go_wp2
  refine bodyPost_ret (by simp [results, Tryd.results41, go_sem, r0, r1, r2, r3]; try rfl) rfl ⟨rfl, ?_⟩
  go_grown

-- WHAT Sar COMES TO.
theorem sar_any (k x : Nat) (w : World) :
    Calls Tryd.prog 41 #[wv k, wv x] w fun e w' => e = .returned (wv (if 57896044618658097711785492504343953926634992332820282019728792003956564819968 ≤ x % 115792089237316195423570985008687907853269984665640564039457584007913129639936 then 115792089237316195423570985008687907853269984665640564039457584007913129639935 - (115792089237316195423570985008687907853269984665640564039457584007913129639935 - x % 115792089237316195423570985008687907853269984665640564039457584007913129639936) / 2 ^ min (k % 115792089237316195423570985008687907853269984665640564039457584007913129639936) 256 else x % 115792089237316195423570985008687907853269984665640564039457584007913129639936 / 2 ^ min (k % 115792089237316195423570985008687907853269984665640564039457584007913129639936) 256)) ∧ Below w.heap.size w w' := by
  have hN := fun w => isNeg_any x w
  have hP0 := fun w => down0_any k x w
  have hP1 := fun w => down1_any k x w
  generalize 115792089237316195423570985008687907853269984665640564039457584007913129639935 - (115792089237316195423570985008687907853269984665640564039457584007913129639935 - x % 115792089237316195423570985008687907853269984665640564039457584007913129639936) / 2 ^ min (k % 115792089237316195423570985008687907853269984665640564039457584007913129639936) 256 = r1 at *
  generalize x % 115792089237316195423570985008687907853269984665640564039457584007913129639936 / 2 ^ min (k % 115792089237316195423570985008687907853269984665640564039457584007913129639936) 256 = r0 at *
  obtain ⟨k0, k1, k2, k3, -, -, -, -, ek, -⟩ := wv_parts k
  obtain ⟨a0, a1, a2, a3, -, -, -, -, ea, -⟩ := wv_parts x
  by_cases h : 57896044618658097711785492504343953926634992332820282019728792003956564819968 ≤ x % 115792089237316195423570985008687907853269984665640564039457584007913129639936
  · rw [decide_eq_true h] at hN
    rw [if_pos h]
    obtain ⟨p0, p1, p2, p3, -, -, -, -, ep, -⟩ := wv_parts r1
    rw [ek, ea, ep] at hP1
    rw [ea] at hN
    rw [ek, ea, ep]
    exact sar_neg k0 k1 k2 k3 a0 a1 a2 a3 p0 p1 p2 p3 w hN hP1
  · rw [decide_eq_false h] at hN
    rw [if_neg h]
    obtain ⟨p0, p1, p2, p3, -, -, -, -, ep, -⟩ := wv_parts r0
    rw [ek, ea, ep] at hP0
    rw [ea] at hN
    rw [ek, ea, ep]
    exact sar_pos k0 k1 k2 k3 a0 a1 a2 a3 p0 p1 p2 p3 w hN hP0
end Go.Proofs.YthfadinocadhaaaDoor
namespace Go.Proofs.YthfadinocadhaaaDoor
open Go.RowKit

theorem index8 (v0 v1 v2 v3 v4 v5 v6 v7 : Value) (w : World) :
    (Instr.index 58 (.agg #[v0, v1, v2, v3, v4, v5, v6, v7]) (.int .i64 0)).run Tryd.prog w = .ok v0 w ∧
    (Instr.index 58 (.agg #[v0, v1, v2, v3, v4, v5, v6, v7]) (.int .i64 1)).run Tryd.prog w = .ok v1 w ∧
    (Instr.index 58 (.agg #[v0, v1, v2, v3, v4, v5, v6, v7]) (.int .i64 2)).run Tryd.prog w = .ok v2 w ∧
    (Instr.index 58 (.agg #[v0, v1, v2, v3, v4, v5, v6, v7]) (.int .i64 3)).run Tryd.prog w = .ok v3 w ∧
    (Instr.index 58 (.agg #[v0, v1, v2, v3, v4, v5, v6, v7]) (.int .i64 4)).run Tryd.prog w = .ok v4 w ∧
    (Instr.index 58 (.agg #[v0, v1, v2, v3, v4, v5, v6, v7]) (.int .i64 5)).run Tryd.prog w = .ok v5 w ∧
    (Instr.index 58 (.agg #[v0, v1, v2, v3, v4, v5, v6, v7]) (.int .i64 6)).run Tryd.prog w = .ok v6 w ∧
    (Instr.index 58 (.agg #[v0, v1, v2, v3, v4, v5, v6, v7]) (.int .i64 7)).run Tryd.prog w = .ok v7 w :=
  ⟨by kernel_rfl, by kernel_rfl, by kernel_rfl, by kernel_rfl, by kernel_rfl, by kernel_rfl, by kernel_rfl, by kernel_rfl⟩

set_option maxRecDepth 100000 in
set_option maxHeartbeats 2000000 in
theorem raise_walk (x0 x1 x2 x3 x4 x5 x6 x7 s t : Nat) (h0 : (0 : Int) ≤ s) (h64 : (s : Int) < 64) (ht : 64 - (s : Int) = (t : Int)) (w : World) :
    Calls Tryd.prog 96 #[.agg #[.int .u64 x0, .int .u64 x1, .int .u64 x2, .int .u64 x3, .int .u64 x4, .int .u64 x5, .int .u64 x6, .int .u64 x7], .int .i64 s] w fun e w' =>
      e = .returned (.agg #[.int .u64 (bits .or .u64 (0) (IntKind.u64.wrap ((x0 : Int) * 2 ^ s))), .int .u64 (bits .or .u64 ((x0 : Int) / 2 ^ t) (IntKind.u64.wrap ((x1 : Int) * 2 ^ s))), .int .u64 (bits .or .u64 ((x1 : Int) / 2 ^ t) (IntKind.u64.wrap ((x2 : Int) * 2 ^ s))), .int .u64 (bits .or .u64 ((x2 : Int) / 2 ^ t) (IntKind.u64.wrap ((x3 : Int) * 2 ^ s))), .int .u64 (bits .or .u64 ((x3 : Int) / 2 ^ t) (IntKind.u64.wrap ((x4 : Int) * 2 ^ s))), .int .u64 (bits .or .u64 ((x4 : Int) / 2 ^ t) (IntKind.u64.wrap ((x5 : Int) * 2 ^ s))), .int .u64 (bits .or .u64 ((x5 : Int) / 2 ^ t) (IntKind.u64.wrap ((x6 : Int) * 2 ^ s))), .int .u64 (bits .or .u64 ((x6 : Int) / 2 ^ t) (IntKind.u64.wrap ((x7 : Int) * 2 ^ s))), .int .u64 ((x7 : Int) / 2 ^ t)]) ∧ Below w.heap.size w w' := by
  have i0 : ∀ v0 v1 v2 v3 v4 v5 v6 v7 w, _ := fun v0 v1 v2 v3 v4 v5 v6 v7 w => (index8 v0 v1 v2 v3 v4 v5 v6 v7 w).1
  have i1 : ∀ v0 v1 v2 v3 v4 v5 v6 v7 w, _ := fun v0 v1 v2 v3 v4 v5 v6 v7 w => (index8 v0 v1 v2 v3 v4 v5 v6 v7 w).2.1
  have i2 : ∀ v0 v1 v2 v3 v4 v5 v6 v7 w, _ := fun v0 v1 v2 v3 v4 v5 v6 v7 w => (index8 v0 v1 v2 v3 v4 v5 v6 v7 w).2.2.1
  have i3 : ∀ v0 v1 v2 v3 v4 v5 v6 v7 w, _ := fun v0 v1 v2 v3 v4 v5 v6 v7 w => (index8 v0 v1 v2 v3 v4 v5 v6 v7 w).2.2.2.1
  have i4 : ∀ v0 v1 v2 v3 v4 v5 v6 v7 w, _ := fun v0 v1 v2 v3 v4 v5 v6 v7 w => (index8 v0 v1 v2 v3 v4 v5 v6 v7 w).2.2.2.2.1
  have i5 : ∀ v0 v1 v2 v3 v4 v5 v6 v7 w, _ := fun v0 v1 v2 v3 v4 v5 v6 v7 w => (index8 v0 v1 v2 v3 v4 v5 v6 v7 w).2.2.2.2.2.1
  have i6 : ∀ v0 v1 v2 v3 v4 v5 v6 v7 w, _ := fun v0 v1 v2 v3 v4 v5 v6 v7 w => (index8 v0 v1 v2 v3 v4 v5 v6 v7 w).2.2.2.2.2.2.1
  have i7 : ∀ v0 v1 v2 v3 v4 v5 v6 v7 w, _ := fun v0 v1 v2 v3 v4 v5 v6 v7 w => (index8 v0 v1 v2 v3 v4 v5 v6 v7 w).2.2.2.2.2.2.2
  go_enter Tryd.func96, Tryd.ntmps96
  go_wp2
  refine wp_loop_rounds 9 ?_
  iterate 8 (rw [rounds_succ]; go_wp2; go_region; go_wp2)
  rw [rounds_succ]; go_wp2
  go_returns
  refine ⟨?_, by go_grown⟩
  rfl
end Go.Proofs.YthfadinocadhaaaDoor
namespace Go.Proofs.YthfadinocadhaaaDoor
open Go.RowKit

/-- Four parts copied to the head of eight. -/
theorem copy4 (W : World) (b c : Nat) (a0 a1 a2 a3 : Nat)
    (s0 : W.cell? ⟨c, 0, none⟩ = some (.int .u64 a0)) (s1 : W.cell? ⟨c, 1, none⟩ = some (.int .u64 a1)) (s2 : W.cell? ⟨c, 2, none⟩ = some (.int .u64 a2)) (s3 : W.cell? ⟨c, 3, none⟩ = some (.int .u64 a3))
    (d0 : (W.cell? ⟨b, 0, none⟩).isSome = true) (d1 : (W.cell? ⟨b, 1, none⟩).isSome = true) (d2 : (W.cell? ⟨b, 2, none⟩).isSome = true) (d3 : (W.cell? ⟨b, 3, none⟩).isSome = true)
    (f0 : W.frozen? ⟨b, 0, none⟩ = false) (f1 : W.frozen? ⟨b, 1, none⟩ = false) (f2 : W.frozen? ⟨b, 2, none⟩ = false) (f3 : W.frozen? ⟨b, 3, none⟩ = false) :
    (Builtin.copy_ #[51, 51] 3 #[.slice (some ⟨b, 0, none⟩) 8 8, .slice (some ⟨c, 0, none⟩) 4 4]).run Tryd.prog W =
      .ok (.int .i64 4) ((((W.setCell ⟨b, 0, none⟩ (.int .u64 a0)).setCell ⟨b, 1, none⟩ (.int .u64 a1)).setCell ⟨b, 2, none⟩ (.int .u64 a2)).setCell ⟨b, 3, none⟩ (.int .u64 a3)) := by
  have h := run_copy_cells (P := Tryd.prog) W 51 51 3 22 b 0 8 8 ⟨c, 0, none⟩ 4 4 [.int .u64 a0, .int .u64 a1, .int .u64 a2, .int .u64 a3] Tryd.underlying51 (by kernel_rfl) rfl
    (fun j v hj => by
      rcases j with _ | _ | _ | _ | j
      · cases hj; exact s0
      · cases hj; exact s1
      · cases hj; exact s2
      · cases hj; exact s3
      · simp at hj)
    (fun j hj => by
      rcases j with _ | _ | _ | _ | j
      · exact d0
      · exact d1
      · exact d2
      · exact d3
      · simp at hj; omega)
    (fun j hj => by
      rcases j with _ | _ | _ | _ | j
      · exact f0
      · exact f1
      · exact f2
      · exact f3
      · simp at hj; omega)
    (fun v hv => by simp at hv; rcases hv with rfl | rfl | rfl | rfl <;> rfl)
  exact h

set_option maxRecDepth 100000 in
set_option maxHeartbeats 1000000 in
theorem widen_nil (a0 a1 a2 a3 : Nat) (w : World) :
    Calls Tryd.prog 75 #[.agg #[.int .u64 a0, .int .u64 a1, .int .u64 a2, .int .u64 a3], .slice none 0 0] w fun e w' =>
      e = .returned (.agg #[.int .u64 a0, .int .u64 a1, .int .u64 a2, .int .u64 a3, .int .u64 0, .int .u64 0, .int .u64 0, .int .u64 0]) ∧ Below w.heap.size w w' := by
  have hcp := copy4 ((((w.alloc (.cells #[.int .u64 a0, .int .u64 a1, .int .u64 a2, .int .u64 a3] 24)).alloc (.cells #[.int .u64 0, .int .u64 0, .int .u64 0, .int .u64 0, .int .u64 0, .int .u64 0, .int .u64 0, .int .u64 0] 58)).alloc (.cells #[.int .u64 0, .int .u64 0, .int .u64 0, .int .u64 0, .int .u64 0, .int .u64 0, .int .u64 0, .int .u64 0] 58)).drew) (w.heap.size + 1 + 1) w.heap.size a0 a1 a2 a3
    (by go_cell) (by go_cell) (by go_cell) (by go_cell) (by go_simp) (by go_simp) (by go_simp) (by go_simp) (by go_cell) (by go_cell) (by go_cell) (by go_cell)
  have hcn := fun W : World => run_copy_nil (P := Tryd.prog) W 51 51 3 22 ⟨w.heap.size + 1 + 1, 4, none⟩ 4 4 Tryd.underlying51 (by kernel_rfl)
  go_enter Tryd.func75, Tryd.ntmps75
  go_wp2
  go_region
  go_wp2
  go_returns
  refine ⟨?_, by go_grown⟩
  rfl
end Go.Proofs.YthfadinocadhaaaDoor
namespace Go.Proofs.YthfadinocadhaaaDoor
open Go

section
variable {P : Program} {ops : Array Oper} {md : Region.Mode} {C : World → Prop}

/-- Whatever order is picked among the first n, till all of them are done. -/
def anyHead (P : Program) (md : Region.Mode) (ops : Array Oper) (C : World → Prop) (n : Nat) (L : Array Bool → Act → Prop) : Nat → Array Bool → Act → Prop
  | 0, listed, a => L listed a
  | f + 1, listed, a => Region.ready md ops listed ≠ [] ∧ ∀ i ∈ Region.ready md ops listed, i < n ∧ qOp P ops C i (anyHead P md ops C n L f (listed.setIfInBounds i true)) a

theorem any_of_head {n g : Nat} {L : Array Bool → Act → Prop} {Q' : Exit → Act → World → Prop} (hL : ∀ listed a w, C w → L listed a → wpAny P md ops Q' g listed a w) :
    ∀ (f : Nat) (listed : Array Bool) (a : Act) (w : World), C w → anyHead P md ops C n L f listed a → wpAny P md ops Q' (f + g) listed a w
  | 0, listed, a, w, hw, h => by rw [Nat.zero_add]; exact hL _ _ _ hw h
  | f + 1, listed, a, w, hw, h => by
    rw [show f + 1 + g = (f + g) + 1 by omega]
    exact ⟨fun h0 => absurd h0 h.1, fun i hi => wpOp_of_qOp hw (fun a' w' hw' h' => any_of_head hL f _ a' w' hw' h') (h.2 i hi).2⟩

theorem head_first {n i : Nat} {oi : Oper} {v : Value} {L : Array Bool → Act → Prop} (hi : ops[i]? = some oi) (hsel : ∀ (j : Nat) (o : Oper) cs b, ops[j]? = some o → o.op ≠ .select cs b)
    (hs : Region.sinkB md ops n = true) (hc : Region.chainB md ops n = true) (hn : n < ops.size) (hin : i < n)
    (hdone : ∀ listed a, L listed a → ∀ j ∈ Region.ready md ops listed, n ≤ j) :
    ∀ (f : Nat) (listed : Array Bool) (a : Act), HeadInv md ops n listed →
      (∀ j oj, ops[j]? = some oj → j ≠ i → listed.getD j true = false → (∀ e ∈ oj.after, Region.binds md e = true → e.on ≠ i) → oi.apart ops oj = true) →
      i ∈ Region.ready md ops listed → YieldsIn P ops C oi v a →
      anyHead P md ops C n L f (listed.setIfInBounds i true) (a.put oi.dst v) → anyHead P md ops C n L (f + 1) listed a := by
  intro f
  induction f with
  | zero =>
    intro listed a inv _ hr hy H
    have hun := (mem_ready.1 hr).1
    refine ⟨fun h => (by rw [h] at hr; cases hr), fun j hj => ?_⟩
    have hjn : j < n := by
      rcases Nat.lt_or_ge j n with h | h
      · exact h
      · exact absurd hj (tail_waits hs hc hn inv _ i rfl hin hun j h)
    refine ⟨hjn, ?_⟩
    by_cases hji : j = i
    · subst hji; exact hy.qOp hi H
    · have := hdone _ _ H j (ready_mono hj hji)
      omega
  | succ f ih =>
    intro listed a inv hfree hr hy H
    have hun := (mem_ready.1 hr).1
    refine ⟨fun h => (by rw [h] at hr; cases hr), fun j hj => ?_⟩
    have hjn : j < n := by
      rcases Nat.lt_or_ge j n with h | h
      · exact h
      · exact absurd hj (tail_waits hs hc hn inv _ i rfl hin hun j h)
    refine ⟨hjn, ?_⟩
    by_cases hji : j = i
    · subst hji; exact hy.qOp hi H
    · have h1 := (H.2 j (ready_mono hj hji)).2
      obtain ⟨hjun, oj, hoj, hall⟩ := mem_ready.1 hj
      have hnot : ∀ e ∈ oj.after, Region.binds md e = true → e.on ≠ i := fun e he hb heq => by
        have h1 := hall e he hb
        rw [heq, getD_both hun] at h1
        cases h1
      have h2 := qOp_put hoj (hfree j oj hoj hji hjun hnot) (fun cs b => hsel i oi cs b hi) (fun cs b => hsel j oj cs b hoj) hy h1
      have hfree' : ∀ k ok, ops[k]? = some ok → k ≠ i → (listed.setIfInBounds j true).getD k true = false →
          (∀ e ∈ ok.after, Region.binds md e = true → e.on ≠ i) → oi.apart ops ok = true := fun k ok hk hki hun hno => by
        refine hfree k ok hk hki ?_ hno
        by_cases hjk : j = k
        · subst hjk; exact hjun
        · rw [getD_set_ne true hjk] at hun; exact hun
      refine qOp_mono (fun a' h3 => ih (listed.setIfInBounds j true) a' (inv.set hj hjn) hfree' (ready_mono hr (Ne.symm hji)) h3.1 ?_) h2
      rw [Array.setIfInBounds_comm _ _ hji]
      exact h3.2

theorem head_lex {n g : Nat} {Lq : Act → Prop} (hsel : Region.noSelect ops = true) (hs : Region.sinkB md ops n = true) (hc : Region.chainB md ops n = true) (hn : n < ops.size) :
    ∀ (l : List Oper) (k : Nat) (listed : Array Bool) (a : Act), (∀ j, j < l.length → l[j]? = ops[k + j]?) → k + l.length = n → HeadInv md ops n listed →
    Region.lexHead md ops g l.length k listed = true → wpQuiet P ops C Lq l a →
    anyHead P md ops C n (fun listed' a' => Region.seqB md ops g n listed' = true ∧ Lq a') l.length listed a
  | [], k, listed, a, _, hk, _, hB, h => by
    have : k = n := by simpa using hk
    subst this
    exact ⟨by simpa [Region.lexHead] using hB, h⟩
  | o :: l, k, listed, a, hl, hk, inv, hB, h => by
    have h0 : ops[k]? = some o := by simpa using (hl 0 (by simp)).symm
    simp only [List.length_cons, Region.lexHead, Bool.and_eq_true] at hB
    obtain ⟨⟨hr, hf⟩, hB'⟩ := hB
    have hkn : k < n := by simp only [List.length_cons] at hk; omega
    have hr' : k ∈ Region.ready md ops listed := by simpa using hr
    have hst : qOp P ops C k (wpQuiet P ops C Lq l) a := by unfold qOp; simp only [h0]; exact h
    obtain ⟨v, hy, hK⟩ := yieldsIn_of_qOp h0 hst
    exact head_first h0 (Region.noSelect_spec hsel) hs hc hn hkn (fun listed' a' hL => seqB_ready hL.1) l.length listed a inv (Region.free_spec h0 hf) hr' hy
      (head_lex hsel hs hc hn l (k + 1) _ _ (fun j hj => by have := hl (j + 1) (by simp; omega); simpa [Nat.add_assoc, Nat.add_comm 1 j] using this) (by simp only [List.length_cons] at hk; omega) (inv.set hr' hkn) hB' hK)

/-- THE LAW: a quiet head over a class of worlds, then a tail in the text's order, from any world of the class. -/
theorem region_quiet_tail {id : Nat} {Q : Exit → Act → World → Prop} {a : Act} {w : World} {l : List Oper} (n : Nat) (C : World → Prop) (hm : P.follows .mixedOrders = true) (hB : Region.lexTailB .any l.toArray n = true) (hC : C w.drew)
    (h : wpQuiet P l.toArray C (fun a' => ∀ w', C w' → wpList P l.toArray Q (l.drop n) a' w') (l.take n) a) : (Code.region id l.toArray true).wp P Q a w := by
  simp only [Region.lexTailB, Bool.and_eq_true, decide_eq_true_eq] at hB
  obtain ⟨⟨⟨⟨hsel, hn⟩, hs⟩, hc⟩, hlex⟩ := hB
  have hn' : n < l.length := by simpa using hn
  have htl : (l.take n).length = n := by simp; omega
  have hdl : (l.drop n).length = l.toArray.size - n := by simp
  have inv0 : HeadInv .any l.toArray n (Array.replicate l.toArray.size false) :=
    ⟨by simp, fun j oj _ hl => (by rw [getD_replicate_false] at hl; cases hl), fun t _ ht => getD_in (by simpa using ht) (getD_replicate_false _ _)⟩
  have H := head_lex (md := .any) (g := l.toArray.size - n) hsel hs hc hn (l.take n) 0 _ a (fun j hj => by
    have hj' : j < n := by rw [htl] at hj; exact hj
    simp [hj']) (by simpa using htl) inv0 (by rw [htl]; exact hlex) h
  refine wp_region_any hm ?_
  have := any_of_head (Q' := Q) (g := l.toArray.size - n) (fun listed a' w' hw' hL => by
    have := wpAny_of_seq (md := .any) (Q' := Q) (l.drop n) n listed a' w' (fun j => by simp [List.getElem?_drop]) (by rw [hdl]; exact hL.1) (hL.2 w' hw')
    rwa [hdl] at this) _ _ _ w.drew hC H
  rw [htl, show n + (l.toArray.size - n) = l.toArray.size by omega] at this
  exact this
end
end Go.Proofs.YthfadinocadhaaaDoor
namespace Go.Proofs.YthfadinocadhaaaDoor
open Go.RowKit

/-- The divisor's block behind the fifth statement. -/
def CutD (w W : World) (h b : Nat) (v : Value) (wx : World) : Prop :=
  ∃ D : Nat, v = .pointer (some ⟨D, 0, none⟩) ∧ h ≤ D ∧ D < wx.heap.size ∧ Below h W wx ∧ Below w.heap.size w wx ∧ wx.cell? ⟨D, 0, none⟩ = some (.int .u64 b)

theorem cutD_mk {w W wx : World} {h b D : Nat} (h1 : h ≤ D) (h2 : D < wx.heap.size) (h3 : Below h W wx) (h4 : Below w.heap.size w W) (h6 : w.heap.size ≤ h) (h5 : wx.cell? ⟨D, 0, none⟩ = some (.int .u64 b)) : CutD w W h b (.pointer (some ⟨D, 0, none⟩)) wx :=
  ⟨D, rfl, h1, h2, h3, h4.trans (h3.mono h6), h5⟩

theorem after4k {W w1 : World} {P : Prop} (b : Nat) (hb : Below W.heap.size W w1) (hB : b < W.heap.size)
    (c0 : W.cell? ⟨b, 0, none⟩ = some (.int .u64 0)) (c1 : W.cell? ⟨b, 1, none⟩ = some (.int .u64 0)) (c2 : W.cell? ⟨b, 2, none⟩ = some (.int .u64 0)) (c3 : W.cell? ⟨b, 3, none⟩ = some (.int .u64 0))
    (f0 : W.frozen? ⟨b, 0, none⟩ = false) (f1 : W.frozen? ⟨b, 1, none⟩ = false) (f2 : W.frozen? ⟨b, 2, none⟩ = false) (f3 : W.frozen? ⟨b, 3, none⟩ = false)
    (k : (w1.cell? ⟨b, 0, none⟩ = some (.int .u64 0) ∧ w1.cell? ⟨b, 1, none⟩ = some (.int .u64 0) ∧ w1.cell? ⟨b, 2, none⟩ = some (.int .u64 0) ∧ w1.cell? ⟨b, 3, none⟩ = some (.int .u64 0)) →
      (w1.frozen? ⟨b, 0, none⟩ = false ∧ w1.frozen? ⟨b, 1, none⟩ = false ∧ w1.frozen? ⟨b, 2, none⟩ = false ∧ w1.frozen? ⟨b, 3, none⟩ = false) → b < w1.heap.size → P) : P := by
  obtain ⟨q, f, z, -⟩ := after4 (B := 0) b hb (Below.refl _ _) (Nat.zero_le _) hB c0 c1 c2 c3 f0 f1 f2 f3
  exact k q f z

/-- Block b is o. -/
def Is (w : World) (b : Nat) (o : Obj) : Prop := w.heap[b]? = some o
theorem Is.new {w : World} {b : Nat} (o : Obj) (h : b = w.heap.size) : Is (w.alloc o) b o := by subst h; exact heap_alloc_new w o
theorem Is.lt {w : World} {b : Nat} {o : Obj} (h : Is w b o) : b < w.heap.size := by
  rcases Nat.lt_or_ge b w.heap.size with h' | h'
  · exact h'
  · unfold Is at h; simp [Array.getElem?_eq_none h'] at h
theorem Is.alloc {w : World} {b : Nat} {o : Obj} (h : Is w b o) (o' : Obj) : Is (w.alloc o') b o := (Below.heap_alloc w o' b h.lt).trans h
theorem Is.below {w w' : World} {b B : Nat} {o : Obj} (h : Is w b o) (hb : Below B w w') (hB : b < B) : Is w' b o := (hb.block b hB).trans h
theorem Is.but {w w' : World} {b S : Nat} {o : Obj} (h : Is w b o) (hb : But S w w') (hS : b ≠ S) : Is w' b o := (hb.block b hS).trans h
theorem Is.set {w : World} {b : Nat} {o : Obj} (h : Is w b o) {p : Addr} (hp : b ≠ p.block) (u : Value) : Is (w.setCell p u) b o := (Below.heap_setCell w p u b hp).trans h
theorem Is.z8 {w : World} {b : Nat} {t : TypeId} (h : Is w b (.cells #[.int .u64 0, .int .u64 0, .int .u64 0, .int .u64 0, .int .u64 0, .int .u64 0, .int .u64 0, .int .u64 0] t)) : (w.cell? ⟨b, 0, none⟩ = some (.int .u64 0) ∧ w.cell? ⟨b, 1, none⟩ = some (.int .u64 0) ∧ w.cell? ⟨b, 2, none⟩ = some (.int .u64 0) ∧ w.cell? ⟨b, 3, none⟩ = some (.int .u64 0) ∧ w.cell? ⟨b, 4, none⟩ = some (.int .u64 0) ∧ w.cell? ⟨b, 5, none⟩ = some (.int .u64 0) ∧ w.cell? ⟨b, 6, none⟩ = some (.int .u64 0) ∧ w.cell? ⟨b, 7, none⟩ = some (.int .u64 0)) ∧ (w.frozen? ⟨b, 0, none⟩ = false ∧ w.frozen? ⟨b, 1, none⟩ = false ∧ w.frozen? ⟨b, 2, none⟩ = false ∧ w.frozen? ⟨b, 3, none⟩ = false ∧ w.frozen? ⟨b, 4, none⟩ = false ∧ w.frozen? ⟨b, 5, none⟩ = false ∧ w.frozen? ⟨b, 6, none⟩ = false ∧ w.frozen? ⟨b, 7, none⟩ = false) := by
  unfold Is at h
  simp [World.cell?, World.frozen?, h]
theorem Is.z4 {w : World} {b : Nat} {t : TypeId} (h : Is w b (.cells #[.int .u64 0, .int .u64 0, .int .u64 0, .int .u64 0] t)) : (w.cell? ⟨b, 0, none⟩ = some (.int .u64 0) ∧ w.cell? ⟨b, 1, none⟩ = some (.int .u64 0) ∧ w.cell? ⟨b, 2, none⟩ = some (.int .u64 0) ∧ w.cell? ⟨b, 3, none⟩ = some (.int .u64 0)) ∧ (w.frozen? ⟨b, 0, none⟩ = false ∧ w.frozen? ⟨b, 1, none⟩ = false ∧ w.frozen? ⟨b, 2, none⟩ = false ∧ w.frozen? ⟨b, 3, none⟩ = false) := by
  unfold Is at h
  simp [World.cell?, World.frozen?, h]

theorem Is.set0 {w : World} {b : Nat} {t : TypeId} (h : Is w b (.cells #[.int .u64 0, .int .u64 0, .int .u64 0, .int .u64 0, .int .u64 0, .int .u64 0, .int .u64 0, .int .u64 0] t)) : Is (w.setCell ⟨b, 0, none⟩ (.int .u64 0)) b (.cells #[.int .u64 0, .int .u64 0, .int .u64 0, .int .u64 0, .int .u64 0, .int .u64 0, .int .u64 0, .int .u64 0] t) := by
  unfold Is at h ⊢
  simp [World.setCell, Array.getElem?_modify, h]

/-- The worlds of the last statement. -/
def ClR (w : World) (r4 r5 S Q x : Nat) (wx : World) : Prop := Below w.heap.size w wx ∧ Is wx r4 (.cells #[.int .u64 0, .int .u64 0, .int .u64 0, .int .u64 0, .int .u64 0, .int .u64 0, .int .u64 0, .int .u64 0] 58) ∧ Is wx r5 (.cells #[.int .u64 0, .int .u64 0, .int .u64 0, .int .u64 0] 24) ∧ Is wx Q (.cells #[.int .u64 0, .int .u64 0, .int .u64 0, .int .u64 0, .int .u64 0, .int .u64 0, .int .u64 0, .int .u64 0] 58) ∧ wx.cell? ⟨S, 0, none⟩ = some (.int .u64 x) ∧ wx.cell? ⟨S, 1, none⟩ = some (.int .u64 0) ∧ wx.cell? ⟨S, 2, none⟩ = some (.int .u64 0) ∧ wx.cell? ⟨S, 3, none⟩ = some (.int .u64 0) ∧ S < wx.heap.size
theorem ClR.below {w wx w' : World} {r4 r5 S Q x : Nat} (h : ClR w r4 r5 S Q x wx) (hb : Below wx.heap.size wx w') : ClR w r4 r5 S Q x w' := by
  obtain ⟨h0, h1, h2, h3, c0, c1, c2, c3, hs⟩ := h
  exact ⟨h0.trans (hb.mono h0.size), h1.below hb h1.lt, h2.below hb h2.lt, h3.below hb h3.lt, (hb.cell hs).trans c0, (hb.cell hs).trans c1, (hb.cell hs).trans c2, (hb.cell hs).trans c3, Nat.lt_of_lt_of_le hs hb.size⟩

/-- What one round of the long quotient leaves where the rest is one part below the divisor. -/
def OnePost (S x : Nat) (w : World) (e : Ending) (w' : World) : Prop :=
  e = .returned (.int .u64 0) ∧ But S w w' ∧ w'.cell? ⟨S, 0, none⟩ = some (.int .u64 x) ∧ w'.cell? ⟨S, 1, none⟩ = some (.int .u64 0) ∧ w'.cell? ⟨S, 2, none⟩ = w.cell? ⟨S, 2, none⟩ ∧ w'.cell? ⟨S, 3, none⟩ = w.cell? ⟨S, 3, none⟩

set_option maxRecDepth 100000 in
set_option maxHeartbeats 4000000 in
theorem divide_one (x b : Nat) (w : World)
    (hP : ∀ (B : Nat) (w : World), w.cell? ⟨B, 0, none⟩ = some (.int .u64 b) → w.cell? ⟨B, 1, none⟩ = some (.int .u64 0) → w.cell? ⟨B, 2, none⟩ = some (.int .u64 0) → w.cell? ⟨B, 3, none⟩ = some (.int .u64 0) →
      Calls Tryd.prog 94 #[.slice (some ⟨B, 0, none⟩) 4 4] w fun e w' => e = .returned (.int .i64 1) ∧ w = w')
    (hL : ∀ w, Calls Tryd.prog 95 #[.int .u64 b] w fun e w' => e = .returned (.int .i64 0) ∧ w = w')
    (hShl : ∀ w, Calls Tryd.prog 37 #[.agg #[.int .u64 0, .int .u64 0, .int .u64 0, .int .u64 0], .agg #[.int .u64 b, .int .u64 0, .int .u64 0, .int .u64 0]] w fun e w' => e = .returned (.agg #[.int .u64 b, .int .u64 0, .int .u64 0, .int .u64 0]) ∧ Below w.heap.size w w')
    (hR : ∀ w, Calls Tryd.prog 96 #[.agg #[.int .u64 x, .int .u64 0, .int .u64 0, .int .u64 0, .int .u64 0, .int .u64 0, .int .u64 0, .int .u64 0], .int .i64 0] w fun e w' => e = .returned (.agg #[.int .u64 x, .int .u64 0, .int .u64 0, .int .u64 0, .int .u64 0, .int .u64 0, .int .u64 0, .int .u64 0, .int .u64 0]) ∧ Below w.heap.size w w')
    (hPa : ∀ (B : Nat) (w : World), w.cell? ⟨B, 0, none⟩ = some (.int .u64 x) → w.cell? ⟨B, 1, none⟩ = some (.int .u64 0) → w.cell? ⟨B, 2, none⟩ = some (.int .u64 0) → w.cell? ⟨B, 3, none⟩ = some (.int .u64 0) → w.cell? ⟨B, 4, none⟩ = some (.int .u64 0) → w.cell? ⟨B, 5, none⟩ = some (.int .u64 0) → w.cell? ⟨B, 6, none⟩ = some (.int .u64 0) → w.cell? ⟨B, 7, none⟩ = some (.int .u64 0) →
      Calls Tryd.prog 94 #[.slice (some ⟨B, 0, none⟩) 8 8] w fun e w' => e = .returned (.int .i64 1) ∧ w = w')
    (hSt : ∀ (S D : Nat) (w : World), D ≠ S → w.cell? ⟨S, 0, none⟩ = some (.int .u64 x) → w.cell? ⟨S, 1, none⟩ = some (.int .u64 0) → w.frozen? ⟨S, 0, none⟩ = false → w.frozen? ⟨S, 1, none⟩ = false → w.cell? ⟨D, 0, none⟩ = some (.int .u64 b) →
      Calls Tryd.prog 97 #[.slice (some ⟨S, 0, none⟩) 2 9, .slice (some ⟨D, 0, none⟩) 1 4] w (OnePost S x w))
    (hSr : ∀ w, Calls Tryd.prog 39 #[.agg #[.int .u64 0, .int .u64 0, .int .u64 0, .int .u64 0], .agg #[.int .u64 x, .int .u64 0, .int .u64 0, .int .u64 0]] w fun e w' => e = .returned (.agg #[.int .u64 x, .int .u64 0, .int .u64 0, .int .u64 0]) ∧ Below w.heap.size w w') :
    Calls Tryd.prog 74 #[.agg #[.int .u64 x, .int .u64 0, .int .u64 0, .int .u64 0, .int .u64 0, .int .u64 0, .int .u64 0, .int .u64 0], .agg #[.int .u64 b, .int .u64 0, .int .u64 0, .int .u64 0]] w fun e w' =>
      e = .returned (.tuple #[.agg #[.int .u64 0, .int .u64 0, .int .u64 0, .int .u64 0, .int .u64 0, .int .u64 0, .int .u64 0, .int .u64 0], .agg #[.int .u64 x, .int .u64 0, .int .u64 0, .int .u64 0]]) ∧ Below w.heap.size w w' := by
  have HPa := Lib.hid hPa; clear hPa
  have HST := Lib.hid hSt; clear hSt
  have HSR := Lib.hid hSr; clear hSr
  have i4 : Is ((((w.alloc (.cells #[.int .u64 x, .int .u64 0, .int .u64 0, .int .u64 0, .int .u64 0, .int .u64 0, .int .u64 0, .int .u64 0] 58)).alloc (.cells #[.int .u64 b, .int .u64 0, .int .u64 0, .int .u64 0] 24)).alloc (.cells #[.int .u64 0, .int .u64 0, .int .u64 0, .int .u64 0, .int .u64 0, .int .u64 0, .int .u64 0, .int .u64 0] 58)).alloc (.cells #[.int .u64 0, .int .u64 0, .int .u64 0, .int .u64 0] 24)) (w.heap.size + 1 + 1) (.cells #[.int .u64 0, .int .u64 0, .int .u64 0, .int .u64 0, .int .u64 0, .int .u64 0, .int .u64 0, .int .u64 0] 58) := (Is.new _ (by simp)).alloc _
  have i5 : Is ((((w.alloc (.cells #[.int .u64 x, .int .u64 0, .int .u64 0, .int .u64 0, .int .u64 0, .int .u64 0, .int .u64 0, .int .u64 0] 58)).alloc (.cells #[.int .u64 b, .int .u64 0, .int .u64 0, .int .u64 0] 24)).alloc (.cells #[.int .u64 0, .int .u64 0, .int .u64 0, .int .u64 0, .int .u64 0, .int .u64 0, .int .u64 0, .int .u64 0] 58)).alloc (.cells #[.int .u64 0, .int .u64 0, .int .u64 0, .int .u64 0] 24)) (w.heap.size + 1 + 1 + 1) (.cells #[.int .u64 0, .int .u64 0, .int .u64 0, .int .u64 0] 24) := Is.new _ (by simp)
  have I4 := Lib.hid i4; clear i4
  have I5 := Lib.hid i5; clear i5
  have HP := Lib.hid hP; clear hP
  have HSH := Lib.hid hShl; clear hShl
  have HR := Lib.hid hR; clear hR
  have hof : ∀ w, Calls Tryd.prog 57 #[.int .u64 0] w fun e w' => e = .returned (.agg #[.int .u64 0, .int .u64 0, .int .u64 0, .int .u64 0]) ∧ w.alloc (.cells #[.int .u64 0, .int .u64 0, .int .u64 0, .int .u64 0] 24) = w' := fun w => of_exact 0 w
  have HOF := Lib.hid hof; clear hof
  have h0 : Below w.heap.size w ((((w.alloc (.cells #[.int .u64 x, .int .u64 0, .int .u64 0, .int .u64 0, .int .u64 0, .int .u64 0, .int .u64 0, .int .u64 0] 58)).alloc (.cells #[.int .u64 b, .int .u64 0, .int .u64 0, .int .u64 0] 24)).alloc (.cells #[.int .u64 0, .int .u64 0, .int .u64 0, .int .u64 0, .int .u64 0, .int .u64 0, .int .u64 0, .int .u64 0] 58)).alloc (.cells #[.int .u64 0, .int .u64 0, .int .u64 0, .int .u64 0] 24)) := by go_grown
  have H0 := Lib.hid h0; clear h0
  go_enter Tryd.func74, Tryd.ntmps74
  go_wp2_with fail
  refine (HP.out (w.heap.size + 1) ((((w.alloc (.cells #[.int .u64 x, .int .u64 0, .int .u64 0, .int .u64 0, .int .u64 0, .int .u64 0, .int .u64 0, .int .u64 0] 58)).alloc (.cells #[.int .u64 b, .int .u64 0, .int .u64 0, .int .u64 0] 24)).alloc (.cells #[.int .u64 0, .int .u64 0, .int .u64 0, .int .u64 0, .int .u64 0, .int .u64 0, .int .u64 0, .int .u64 0] 58)).alloc (.cells #[.int .u64 0, .int .u64 0, .int .u64 0, .int .u64 0] 24)) (by go_cell) (by go_cell) (by go_cell) (by go_cell)).mono ?_
  rintro e w' ⟨rfl, rfl⟩
  go_wp2_with fail
  refine (hL _).mono ?_
  rintro e w' ⟨rfl, rfl⟩
  go_wp2_with fail
  go_cut [8] (fun v wx => CutD w ((((w.alloc (.cells #[.int .u64 x, .int .u64 0, .int .u64 0, .int .u64 0, .int .u64 0, .int .u64 0, .int .u64 0, .int .u64 0] 58)).alloc (.cells #[.int .u64 b, .int .u64 0, .int .u64 0, .int .u64 0] 24)).alloc (.cells #[.int .u64 0, .int .u64 0, .int .u64 0, .int .u64 0, .int .u64 0, .int .u64 0, .int .u64 0, .int .u64 0] 58)).alloc (.cells #[.int .u64 0, .int .u64 0, .int .u64 0, .int .u64 0] 24)) (w.heap.size + 1 + 1 + 1 + 1) b v wx)
  case first =>
    go_region_with (first | (go_at_call 57; refine (HOF.out _).mono ?_; rintro e w' ⟨rfl, rfl⟩) | (go_at_call 37; refine (HSH.out _).mono ?_; rintro e w' ⟨rfl, hb⟩; (try (refine after4k (w.heap.size + 1 + 1 + 1 + 1) hb ?_ ?_ ?_ ?_ ?_ ?_ ?_ ?_ ?_ ?_; (focus (first | (simp; done) | (simp; omega))); (focus (go_cell; done)); (focus (go_cell; done)); (focus (go_cell; done)); (focus (go_cell; done)); (focus (go_cell; done)); (focus (go_cell; done)); (focus (go_cell; done)); (focus (go_cell; done)); rintro ⟨q0, q1, q2, q3⟩ ⟨fq0, fq1, fq2, fq3⟩ zq)); (try (refine after4k (w.heap.size + 1 + 1 + 1 + 1 + 1) hb ?_ ?_ ?_ ?_ ?_ ?_ ?_ ?_ ?_ ?_; (focus (first | (simp; done) | (simp; omega))); (focus (go_cell; done)); (focus (go_cell; done)); (focus (go_cell; done)); (focus (go_cell; done)); (focus (go_cell; done)); (focus (go_cell; done)); (focus (go_cell; done)); (focus (go_cell; done)); rintro ⟨r0, r1, r2, r3⟩ ⟨fr0, fr1, fr2, fr3⟩ zr))))
    all_goals go_wp2_with fail
    all_goals go_meet
    all_goals
      have hbs := hb.size
      have hb2 : Below (w.heap.size + 1 + 1 + 1 + 1) ((((w.alloc (.cells #[.int .u64 x, .int .u64 0, .int .u64 0, .int .u64 0, .int .u64 0, .int .u64 0, .int .u64 0, .int .u64 0] 58)).alloc (.cells #[.int .u64 b, .int .u64 0, .int .u64 0, .int .u64 0] 24)).alloc (.cells #[.int .u64 0, .int .u64 0, .int .u64 0, .int .u64 0, .int .u64 0, .int .u64 0, .int .u64 0, .int .u64 0] 58)).alloc (.cells #[.int .u64 0, .int .u64 0, .int .u64 0, .int .u64 0] 24)) w' := Below.trans (by go_grown) (hb.mono (by first | (simp; done) | (simp; omega)))
      simp at hbs
      refine cutD_mk ?_ ?_ ?_ H0.out (by omega) ?_
      · first | omega | (simp; omega)
      · first | omega | (simp; done) | (simp; omega)
      · go_grown
      · go_cell
  case rest =>
    obtain ⟨D, rfl, hD1, hD2, hB1, hB2, cD⟩ := hcut
    have a0 : wc.cell? ⟨w.heap.size, 0, none⟩ = some (.int .u64 x) := (hB1.cell (p := ⟨w.heap.size, 0, none⟩) (by simp; omega)).trans (by go_cell)
    have a1 : wc.cell? ⟨w.heap.size, 1, none⟩ = some (.int .u64 0) := (hB1.cell (p := ⟨w.heap.size, 1, none⟩) (by simp; omega)).trans (by go_cell)
    have a2 : wc.cell? ⟨w.heap.size, 2, none⟩ = some (.int .u64 0) := (hB1.cell (p := ⟨w.heap.size, 2, none⟩) (by simp; omega)).trans (by go_cell)
    have a3 : wc.cell? ⟨w.heap.size, 3, none⟩ = some (.int .u64 0) := (hB1.cell (p := ⟨w.heap.size, 3, none⟩) (by simp; omega)).trans (by go_cell)
    have a4 : wc.cell? ⟨w.heap.size, 4, none⟩ = some (.int .u64 0) := (hB1.cell (p := ⟨w.heap.size, 4, none⟩) (by simp; omega)).trans (by go_cell)
    have a5 : wc.cell? ⟨w.heap.size, 5, none⟩ = some (.int .u64 0) := (hB1.cell (p := ⟨w.heap.size, 5, none⟩) (by simp; omega)).trans (by go_cell)
    have a6 : wc.cell? ⟨w.heap.size, 6, none⟩ = some (.int .u64 0) := (hB1.cell (p := ⟨w.heap.size, 6, none⟩) (by simp; omega)).trans (by go_cell)
    have a7 : wc.cell? ⟨w.heap.size, 7, none⟩ = some (.int .u64 0) := (hB1.cell (p := ⟨w.heap.size, 7, none⟩) (by simp; omega)).trans (by go_cell)
    go_wp2_with fail
    refine (HR.out _).mono ?_
    rintro e w2 ⟨rfl, hb⟩
    have hsz : wc.heap.size ≤ w2.heap.size := hb.size
    have g0 : w2.cell? ⟨w.heap.size, 0, none⟩ = some (.int .u64 x) := (hb.cell (p := ⟨w.heap.size, 0, none⟩) (by show w.heap.size < wc.heap.size; omega)).trans a0
    have g1 : w2.cell? ⟨w.heap.size, 1, none⟩ = some (.int .u64 0) := (hb.cell (p := ⟨w.heap.size, 1, none⟩) (by show w.heap.size < wc.heap.size; omega)).trans a1
    have g2 : w2.cell? ⟨w.heap.size, 2, none⟩ = some (.int .u64 0) := (hb.cell (p := ⟨w.heap.size, 2, none⟩) (by show w.heap.size < wc.heap.size; omega)).trans a2
    have g3 : w2.cell? ⟨w.heap.size, 3, none⟩ = some (.int .u64 0) := (hb.cell (p := ⟨w.heap.size, 3, none⟩) (by show w.heap.size < wc.heap.size; omega)).trans a3
    have g4 : w2.cell? ⟨w.heap.size, 4, none⟩ = some (.int .u64 0) := (hb.cell (p := ⟨w.heap.size, 4, none⟩) (by show w.heap.size < wc.heap.size; omega)).trans a4
    have g5 : w2.cell? ⟨w.heap.size, 5, none⟩ = some (.int .u64 0) := (hb.cell (p := ⟨w.heap.size, 5, none⟩) (by show w.heap.size < wc.heap.size; omega)).trans a5
    have g6 : w2.cell? ⟨w.heap.size, 6, none⟩ = some (.int .u64 0) := (hb.cell (p := ⟨w.heap.size, 6, none⟩) (by show w.heap.size < wc.heap.size; omega)).trans a6
    have g7 : w2.cell? ⟨w.heap.size, 7, none⟩ = some (.int .u64 0) := (hb.cell (p := ⟨w.heap.size, 7, none⟩) (by show w.heap.size < wc.heap.size; omega)).trans a7
    have gD : w2.cell? ⟨D, 0, none⟩ = some (.int .u64 b) := (hb.cell (p := ⟨D, 0, none⟩) (by show D < wc.heap.size; omega)).trans cD
    have J4 := Lib.hid ((I4.out.below hB1 (by omega)).below hb (by omega))
    have J5 := Lib.hid ((I5.out.below hB1 (by omega)).below hb (by omega))
    have hB3 : Below w.heap.size w w2 := hB2.trans (hb.mono (by omega))
    clear hb hB1 hB2 a0 a1 a2 a3 a4 a5 a6 a7 cD
    have hDlt : D < w2.heap.size := by omega
    have hwlt : w.heap.size < w2.heap.size := by omega
    go_wp2_with fail
    refine (HPa.out w.heap.size ((w2.alloc (.cells #[.int .u64 x, .int .u64 0, .int .u64 0, .int .u64 0, .int .u64 0, .int .u64 0, .int .u64 0, .int .u64 0, .int .u64 0] 88)).alloc (.cells #[.int .u64 0, .int .u64 0, .int .u64 0, .int .u64 0, .int .u64 0, .int .u64 0, .int .u64 0, .int .u64 0] 58)) (by go_cell) (by go_cell) (by go_cell) (by go_cell) (by go_cell) (by go_cell) (by go_cell) (by go_cell)).mono ?_
    rintro e w' ⟨rfl, rfl⟩
    clear g0 g1 g2 g3 g4 g5 g6 g7
    go_wp2_with fail
    refine wp_loop_rounds 3 ?_
    rw [rounds_succ]; go_wp2_with fail
    have u1 : IntKind.i64.wrap 1 = 1 := rfl
    have u2 : IntKind.i64.wrap 2 = 2 := rfl
    have hcall := HST.out w2.heap.size D ((w2.alloc (.cells #[.int .u64 x, .int .u64 0, .int .u64 0, .int .u64 0, .int .u64 0, .int .u64 0, .int .u64 0, .int .u64 0, .int .u64 0] 88)).alloc (.cells #[.int .u64 0, .int .u64 0, .int .u64 0, .int .u64 0, .int .u64 0, .int .u64 0, .int .u64 0, .int .u64 0] 58)).drew (by omega) (by go_cell) (by go_cell) (by go_cell) (by go_cell) (by go_cell)
    have hne : w2.heap.size + 1 ≠ w2.heap.size := by omega
    have iq : Is ((w2.alloc (.cells #[.int .u64 x, .int .u64 0, .int .u64 0, .int .u64 0, .int .u64 0, .int .u64 0, .int .u64 0, .int .u64 0, .int .u64 0] 88)).alloc (.cells #[.int .u64 0, .int .u64 0, .int .u64 0, .int .u64 0, .int .u64 0, .int .u64 0, .int .u64 0, .int .u64 0] 58)).drew (w2.heap.size + 1) (.cells #[.int .u64 0, .int .u64 0, .int .u64 0, .int .u64 0, .int .u64 0, .int .u64 0, .int .u64 0, .int .u64 0] 58) := Is.new (w := w2.alloc (.cells #[.int .u64 x, .int .u64 0, .int .u64 0, .int .u64 0, .int .u64 0, .int .u64 0, .int .u64 0, .int .u64 0, .int .u64 0] 88)) _ (by simp)
    have HCA := Lib.hid hcall; clear hcall
    have IQ := Lib.hid iq; clear iq
    have HNE := Lib.hid hne; clear hne
    go_region_with (go_at_call 97; refine HCA.out.mono ?_; rintro e w3 ⟨rfl, hbut, s0, s1, s2, s3⟩; obtain ⟨⟨q0, q1, q2, q3, q4, q5, q6, q7⟩, ⟨f0, -⟩⟩ := (IQ.out.but hbut HNE.out).z8)
    have t2 : w3.cell? ⟨w2.heap.size, 2, none⟩ = some (.int .u64 0) := s2.trans (by go_cell)
    have t3 : w3.cell? ⟨w2.heap.size, 3, none⟩ = some (.int .u64 0) := s3.trans (by go_cell)
    clear s2 s3
    go_wp2_with fail
    rw [rounds_succ]; go_wp2_with fail
    have z3 : w3.heap.size = w2.heap.size + 1 + 1 := by have h := hbut.size; simpa using h
    have hl4 : w.heap.size + 1 + 1 < w2.heap.size := J4.out.lt
    have hl5 : w.heap.size + 1 + 1 + 1 < w2.heap.size := J5.out.lt
    have ne4 : w.heap.size + 1 + 1 ≠ w2.heap.size := by omega
    have ne5 : w.heap.size + 1 + 1 + 1 ≠ w2.heap.size := by omega
    have g4 : Is (w3.setCell ⟨w2.heap.size + 1, 0, none⟩ (.int .u64 0)).drew (w.heap.size + 1 + 1) (.cells #[.int .u64 0, .int .u64 0, .int .u64 0, .int .u64 0, .int .u64 0, .int .u64 0, .int .u64 0, .int .u64 0] 58) := (Is.but (w := ((w2.alloc (.cells #[.int .u64 x, .int .u64 0, .int .u64 0, .int .u64 0, .int .u64 0, .int .u64 0, .int .u64 0, .int .u64 0, .int .u64 0] 88)).alloc (.cells #[.int .u64 0, .int .u64 0, .int .u64 0, .int .u64 0, .int .u64 0, .int .u64 0, .int .u64 0, .int .u64 0] 58)).drew) ((J4.out.alloc _).alloc _) hbut ne4).set (p := ⟨w2.heap.size + 1, 0, none⟩) (by show w.heap.size + 1 + 1 ≠ w2.heap.size + 1; omega) _
    have g5 : Is (w3.setCell ⟨w2.heap.size + 1, 0, none⟩ (.int .u64 0)).drew (w.heap.size + 1 + 1 + 1) (.cells #[.int .u64 0, .int .u64 0, .int .u64 0, .int .u64 0] 24) := (Is.but (w := ((w2.alloc (.cells #[.int .u64 x, .int .u64 0, .int .u64 0, .int .u64 0, .int .u64 0, .int .u64 0, .int .u64 0, .int .u64 0, .int .u64 0] 88)).alloc (.cells #[.int .u64 0, .int .u64 0, .int .u64 0, .int .u64 0, .int .u64 0, .int .u64 0, .int .u64 0, .int .u64 0] 58)).drew) ((J5.out.alloc _).alloc _) hbut ne5).set (p := ⟨w2.heap.size + 1, 0, none⟩) (by show w.heap.size + 1 + 1 + 1 ≠ w2.heap.size + 1; omega) _
    have gq : Is (w3.setCell ⟨w2.heap.size + 1, 0, none⟩ (.int .u64 0)).drew (w2.heap.size + 1) (.cells #[.int .u64 0, .int .u64 0, .int .u64 0, .int .u64 0, .int .u64 0, .int .u64 0, .int .u64 0, .int .u64 0] 58) := (IQ.out.but hbut HNE.out).set0
    have hB5 : Below w.heap.size w (w3.setCell ⟨w2.heap.size + 1, 0, none⟩ (.int .u64 0)).drew := ((But.below (w := ((w2.alloc (.cells #[.int .u64 x, .int .u64 0, .int .u64 0, .int .u64 0, .int .u64 0, .int .u64 0, .int .u64 0, .int .u64 0, .int .u64 0] 88)).alloc (.cells #[.int .u64 0, .int .u64 0, .int .u64 0, .int .u64 0, .int .u64 0, .int .u64 0, .int .u64 0, .int .u64 0] 58)).drew) (hB3.trans (Below.mono (B := w2.heap.size) (by go_grown) (by omega))) hbut (by omega)).setCell (by show w.heap.size ≤ w2.heap.size + 1; omega) _).drew
    have zq : w2.heap.size < w3.heap.size := by omega
    have G4 := Lib.hid g4; clear g4
    have G5 := Lib.hid g5; clear g5
    have GQ := Lib.hid gq; clear gq
    have HB5 := Lib.hid hB5; clear hB5
    clear z3 ne4 ne5
    clear q0 q1 q2 q3 q4 q5 q6 q7 f0
    have hat := arrayAt4
    have hcl : ClR w (w.heap.size + 1 + 1) (w.heap.size + 1 + 1 + 1) w2.heap.size (w2.heap.size + 1) x (w3.setCell ⟨w2.heap.size + 1, 0, none⟩ (.int .u64 0)).drew := ⟨HB5.out, G4.out, G5.out, GQ.out, (by go_cell), (by go_cell), (by go_cell), (by go_cell), (by show w2.heap.size < (w3.setCell ⟨w2.heap.size + 1, 0, none⟩ (.int .u64 0)).heap.size; simp; exact zq)⟩
    refine region_quiet_tail 8 (ClR w (w.heap.size + 1 + 1) (w.heap.size + 1 + 1 + 1) w2.heap.size (w2.heap.size + 1) x) (by kernel_rfl) (by kernel_rfl) hcl ?_
    simp only [List.take_succ_cons, List.take_zero, List.drop_succ_cons, List.drop_zero]
    clear hcl
    refine wpQuiet_step (fun K hK => ?_)
    rw [if_pos (by rfl)]
    refine ⟨.agg #[.int .u64 0, .int .u64 0, .int .u64 0, .int .u64 0, .int .u64 0, .int .u64 0, .int .u64 0, .int .u64 0], fun wx hC => ?_, hK _ ?_⟩
    · obtain ⟨-, -, -, h3, -, -, -, -, -⟩ := hC
      obtain ⟨⟨q0, q1, q2, q3, q4, q5, q6, q7⟩, -⟩ := h3.z8
      go_simp
    clear hK K
    refine wpQuiet_step (fun K hK => ?_)
    go_simp
    refine ⟨_, fun _ _ => rfl, hK _ ?_⟩
    clear hK K
    refine wpQuiet_step (fun K hK => ?_)
    go_simp
    refine ⟨_, fun _ _ => rfl, hK _ ?_⟩
    clear hK K
    refine wpQuiet_step (fun K hK => ?_)
    rw [if_pos (by rfl)]
    refine ⟨.agg #[.int .u64 0, .int .u64 0, .int .u64 0, .int .u64 0], fun wx hC => ?_, hK _ ?_⟩
    · go_simp
      refine (HOF.out _).mono ?_
      rintro e w' ⟨rfl, rfl⟩
      exact ⟨rfl, hC.below (by go_grown)⟩
    clear hK K
    refine wpQuiet_step (fun K hK => ?_)
    go_simp
    refine ⟨_, fun _ _ => rfl, hK _ ?_⟩
    clear hK K
    refine wpQuiet_step (fun K hK => ?_)
    go_simp
    refine ⟨_, fun _ _ => rfl, hK _ ?_⟩
    clear hK K
    refine wpQuiet_step (fun K hK => ?_)
    rw [if_pos (by rfl)]
    refine ⟨.agg #[.int .u64 x, .int .u64 0, .int .u64 0, .int .u64 0], fun wx hC => ?_, hK _ ?_⟩
    · obtain ⟨-, -, -, -, c0, c1, c2, c3, -⟩ := hC
      go_simp
    clear hK K
    refine wpQuiet_step (fun K hK => ?_)
    rw [if_pos (by rfl)]
    refine ⟨.agg #[.int .u64 x, .int .u64 0, .int .u64 0, .int .u64 0], fun wx hC => ?_, hK _ ?_⟩
    · go_simp
      refine (HSR.out _).mono ?_
      rintro e w' ⟨rfl, hb⟩
      exact ⟨rfl, hC.below hb⟩
    clear hK K
    refine wpQuiet_nil ?_
    intro wx hC
    obtain ⟨h0, h4, h5, -, -, -, -, -, -⟩ := hC
    obtain ⟨⟨c0, c1, c2, c3, c4, c5, c6, c7⟩, ⟨e0, e1, e2, e3, e4, e5, e6, e7⟩⟩ := h4.z8
    obtain ⟨⟨k0, k1, k2, k3⟩, ⟨l0, l1, l2, l3⟩⟩ := h5.z4
    have hlt4 := h4.lt
    have hlt5 := h5.lt
    clear h4 h5
    go_wp2
    refine bodyPost_ret (by simp [results, Tryd.results74, go_sem, c0, c1, c2, c3, c4, c5, c6, c7, k0, k1, k2, k3]; try rfl) rfl ⟨rfl, ?_⟩
    go_grown
end Go.Proofs.YthfadinocadhaaaDoor

/- What word.takeTimes comes to, called with any slices of parts that lie in two blocks. -/
import Derived.Test.YthfadinocadhaaaDoorParts
import Derived.Deep.LoopGhost
import Derived.Lib.Hide
namespace Go.Proofs.YthfadinocadhaaaDoor
open Go.RowKit

/-- The number of the first n parts. -/
def val (f : Nat → Nat) : Nat → Nat
  | 0 => 0
  | n + 1 => val f n + 18446744073709551616 ^ n * f n

theorem val_congr {f g : Nat → Nat} {n : Nat} (h : ∀ j, j < n → f j = g j) : val f n = val g n := by
  induction n with
  | zero => rfl
  | succ n ih => simp only [val]; rw [ih (fun j hj => h j (by omega)), h n (by omega)]

/-- Nothing has turned but cells of block S. -/
structure But (S : Nat) (w w' : World) : Prop where
  os : w'.os = w.os
  tape : w'.tape = w.tape
  output : w'.output = w.output
  size : w'.heap.size = w.heap.size
  block : ∀ k, k ≠ S → w'.heap[k]? = w.heap[k]?
  frozen : ∀ j, w'.frozen? ⟨S, j, none⟩ = w.frozen? ⟨S, j, none⟩

theorem But.refl (S : Nat) (w : World) : But S w w := ⟨rfl, rfl, rfl, rfl, fun _ _ => rfl, fun _ => rfl⟩
theorem But.set {S : Nat} {w w' : World} (h : But S w w') (j : Nat) (u : Value) : But S w (w'.setCell ⟨S, j, none⟩ u) :=
  ⟨h.os, h.tape, h.output, by simp [h.size], fun k hk => by rw [Below.heap_setCell _ _ _ _ hk]; exact h.block k hk, fun i => by rw [World.frozen?_setCell]; exact h.frozen i⟩
theorem But.trans {S : Nat} {w w' w'' : World} (h : But S w w') (h' : But S w' w'') : But S w w'' :=
  ⟨h'.os.trans h.os, h'.tape.trans h.tape, h'.output.trans h.output, h'.size.trans h.size, fun k hk => (h'.block k hk).trans (h.block k hk), fun j => (h'.frozen j).trans (h.frozen j)⟩
theorem But.cell {S : Nat} {w w' : World} (h : But S w w') {p : Addr} (hp : p.block ≠ S) : w'.cell? p = w.cell? p := World.cell?_of_block (w := w) (h.block p.block hp)
theorem But.below {S B : Nat} {w0 w w' : World} (h0 : Below B w0 w) (h : But S w w') (hB : B ≤ S) : Below B w0 w' :=
  h0.trans ⟨h.os, h.tape, h.output, by rw [h.size]; exact Nat.le_refl _, fun k hk => h.block k (by omega)⟩

/-- Cells o .. of block S hold the first k parts of ns; the others what they held. -/
def Holds (S o k : Nat) (ns : Nat → Nat) (w w' : World) : Prop := But S w w' ∧ ∀ j, w'.cell? ⟨S, j, none⟩ = if o ≤ j ∧ j < o + k then some (.int .u64 (ns (j - o) : Nat)) else w.cell? ⟨S, j, none⟩

theorem Holds.start (S o : Nat) (ns : Nat → Nat) (w : World) : Holds S o 0 ns w w := ⟨But.refl S w, fun j => by rw [if_neg (by omega)]⟩
theorem Holds.next {S o k : Nat} {ns : Nat → Nat} {w w' : World} (h : Holds S o k ns w w') (s : Nat) (hs : (w.cell? ⟨S, o + k, none⟩).isSome = true) :
    Holds S o (k + 1) (fun j => if j = k then s else ns j) w (w'.setCell ⟨S, o + k, none⟩ (.int .u64 s)) := by
  refine ⟨h.1.set _ _, fun j => ?_⟩
  by_cases hj : j = o + k
  · subst hj
    have h1 : (w'.cell? ⟨S, o + k, none⟩).isSome = true := by rw [h.2, if_neg (by omega)]; exact hs
    obtain ⟨v, hv⟩ := Option.isSome_iff_exists.1 h1
    rw [if_pos (by omega), World.cell?_setCell_same _ _ _ hv]
    simp
  · rw [World.cell?_setCell_other _ _ _ _ (by intro e; apply hj; injection e with _ e2; exact e2.symm)]
    rw [h.2 j]
    by_cases h1 : o ≤ j ∧ j < o + k
    · rw [if_pos h1, if_pos (by omega)]
      simp only []
      rw [if_neg (by omega)]
    · rw [if_neg h1, if_neg (by omega)]

/-- What word.takeTimes leaves: the rest's cells, and what is owed. -/
def TakePost (S o n part : Nat) (r d : Nat → Nat) (w : World) (e : Ending) (w' : World) : Prop :=
  ∃ (ns : Nat → Nat) (debt : Nat), e = .returned (.int .u64 debt) ∧ debt ≤ 1 ∧ (∀ j, j < n + 1 → ns j < 18446744073709551616) ∧
    val ns (n + 1) + part * val d n = val r (n + 1) + 18446744073709551616 ^ (n + 1) * debt ∧ Holds S o (n + 1) ns w w'

/-- One round's reckoning. -/
theorem take_step {P x rk t s c c' b b' m dk N R V : Nat} (h : N + V = R + P * (c + b)) (h1 : t + 18446744073709551616 * c' = m + c) (h2 : s + t + b = rk + 18446744073709551616 * b') (hm : m = dk * x) :
    N + P * s + (V + P * (dk * x)) = R + P * rk + P * 18446744073709551616 * (c' + b') := by
  subst hm
  have e1 : P * t + P * (18446744073709551616 * c') = P * (dk * x) + P * c := by rw [← Nat.mul_add, ← Nat.mul_add, h1]
  have e2 : P * s + P * t + P * b = P * rk + P * (18446744073709551616 * b') := by rw [← Nat.mul_add, ← Nat.mul_add, ← Nat.mul_add, h2]
  have e3 : P * 18446744073709551616 * (c' + b') = P * (18446744073709551616 * c') + P * (18446744073709551616 * b') := by grind
  have e4 : P * (c + b) = P * c + P * b := Nat.mul_add _ _ _
  omega

set_option maxRecDepth 100000 in
set_option maxHeartbeats 1000000 in
theorem take_any (S o capS D capD n part : Nat) (r d : Nat → Nat) (hn : (n : Int) ≤ 1000) (hr : ∀ j, j < n + 1 → r j < 18446744073709551616) (hd : ∀ j, j < n → d j < 18446744073709551616)
    (hp : part < 18446744073709551616) (hSD : D ≠ S) (w : World)
    (hs : ∀ j, j < n + 1 → w.cell? ⟨S, o + j, none⟩ = some (.int .u64 (r j))) (hf : ∀ j, j < n + 1 → w.frozen? ⟨S, o + j, none⟩ = false)
    (hc : ∀ j, j < n → w.cell? ⟨D, j, none⟩ = some (.int .u64 (d j))) :
    Calls Tryd.prog 108 #[.slice (some ⟨S, o, none⟩) ((n + 1 : Nat)) capS, .slice (some ⟨D, 0, none⟩) n capD, .int .u64 part] w (TakePost S o n part r d w) := by
  have HR := Lib.hid hr; clear hr
  have HD := Lib.hid hd; clear hd
  have HS := Lib.hid hs; clear hs
  have HF := Lib.hid hf; clear hf
  have HC := Lib.hid hc; clear hc
  have HN := Lib.hid hSD; clear hSD
  have HP := Lib.hid hp; clear hp
  go_enter Tryd.func108, Tryd.ntmps108
  go_wp2
  go_loopw [7, 8, 14] (fun c b i wr => ∃ (k cn bn : Nat) (ns : Nat → Nat), k ≤ n ∧ c = .int .u64 cn ∧ b = .int .u64 bn ∧ i = .int .i64 k ∧ Hid (cn < 18446744073709551616 ∧ bn ≤ 1 ∧ (∀ j, j < k → ns j < 18446744073709551616) ∧ val ns k + val d k * part = val r k + 18446744073709551616 ^ k * (cn + bn) ∧ Holds S o k ns w wr)) (fun _ _ i _ => n - (intOf i).toNat)
  case atStart => exact ⟨0, 0, 0, r, Nat.zero_le _, rfl, rfl, rfl, Lib.hid ⟨by omega, by omega, fun j hj => by omega, by simp [val], Holds.start S o r w⟩⟩
  case round =>
    obtain ⟨k, cn, bn, ns, hk, rfl, rfl, rfl, H⟩ := hrel
    have hk0 : (0 : Int) ≤ k := by omega
    have hk1 : (k : Int) ≤ 1000 := by omega
    by_cases hlt : k < n
    · obtain ⟨tn, c', lt, lc, et, hM⟩ := mulAdd_ex (d k) part 0 cn (HD.out k hlt) HP.out (by omega) H.out.1
      obtain ⟨sn, b', lb, ls, es, hSu⟩ := sub64_ex (r k) tn bn (HR.out k (by omega)) lt H.out.2.1
      have cd : wr.cell? ⟨D, k, none⟩ = some (.int .u64 (d k)) := by rw [H.out.2.2.2.2.1.cell (p := ⟨D, k, none⟩) HN.out]; exact HC.out k hlt
      have cs : wr.cell? ⟨S, o + k, none⟩ = some (.int .u64 (r k)) := by rw [H.out.2.2.2.2.2 (o + k), if_neg (by omega)]; exact HS.out k (by omega)
      have cf : wr.frozen? ⟨S, o + k, none⟩ = false := by rw [H.out.2.2.2.2.1.frozen]; exact HF.out k (by omega)
      have ET := Lib.hid et; clear et
      have ES := Lib.hid es; clear es
      have HM := Lib.hid hM; clear hM
      go_wp2_with fail
      refine (HM.out _).mono ?_
      rintro e w' ⟨rfl, rfl⟩
      go_wp2
      go_roundw
      case rel =>
        refine ⟨k + 1, c', b', fun j => if j = k then sn else ns j, by omega, rfl, rfl, by go_num, Lib.hid ⟨lc, lb, fun j hj => ?_, ?_, H.out.2.2.2.2.next sn (by rw [HS.out k (by omega)]; rfl)⟩⟩
        · by_cases h : j = k
          · simp only [h, if_true]; exact ls
          · simp only [h, if_false]; exact H.out.2.2.1 j (by omega)
        · have e1 : val (fun j => if j = k then sn else ns j) k = val ns k := val_congr (fun j hj => by simp only [show ¬ j = k by omega, if_false])
          simp only [val, e1, if_true]
          have hm : d k * part = d k * part := rfl
          have := take_step (P := 18446744073709551616 ^ k) (x := part) (dk := d k) (N := val ns k) (V := val d k * part) H.out.2.2.2.1 (by rw [ET.out]; omega) ES.out hm
          rw [Nat.pow_succ, Nat.add_mul, Nat.mul_assoc _ (d k) part]
          exact this
      case measure => simp [intOf]; omega
    · obtain rfl : k = n := by omega
      obtain ⟨s1, b1, lb1, ls1, es1, hS1⟩ := sub64_ex (r k) cn bn (HR.out k (by omega)) H.out.1 H.out.2.1
      have ES := Lib.hid es1; clear es1
      have cs : wr.cell? ⟨S, o + k, none⟩ = some (.int .u64 (r k)) := by rw [H.out.2.2.2.2.2 (o + k), if_neg (by omega)]; exact HS.out k (by omega)
      have cf : wr.frozen? ⟨S, o + k, none⟩ = false := by rw [H.out.2.2.2.2.1.frozen]; exact HF.out k (by omega)
      go_wp2
      go_ret
      refine ⟨fun j => if j = k then s1 else ns j, b1, rfl, lb1, fun j hj => ?_, ?_, H.out.2.2.2.2.next s1 (by rw [HS.out k (by omega)]; rfl)⟩
      · by_cases h : j = k
        · simp only [h, if_true]; exact ls1
        · simp only [h, if_false]; exact H.out.2.2.1 j (by omega)
      · have e1 : val (fun j => if j = k then s1 else ns j) k = val ns k := val_congr (fun j hj => by simp only [show ¬ j = k by omega, if_false])
        simp only [val, e1, if_true]
        have h0 := H.out.2.2.2.1
        have h1 := ES.out
        rw [Nat.mul_comm part, Nat.pow_succ, Nat.mul_assoc]
        have e2 : 18446744073709551616 ^ k * s1 + 18446744073709551616 ^ k * cn + 18446744073709551616 ^ k * bn = 18446744073709551616 ^ k * r k + 18446744073709551616 ^ k * (18446744073709551616 * b1) := by rw [← Nat.mul_add, ← Nat.mul_add, ← Nat.mul_add, h1]
        rw [Nat.mul_add] at h0
        omega
end Go.Proofs.YthfadinocadhaaaDoor

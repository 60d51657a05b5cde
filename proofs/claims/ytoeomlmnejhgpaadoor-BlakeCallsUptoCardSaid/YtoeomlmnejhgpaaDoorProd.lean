/- What bailiwickref01.Product comes to, called with any two slices of digits. -/
import Derived.Test.YtoeomlmnejhgpaaDoorDg
import Derived.BigQuiet
import Derived.WalkSmall
import Derived.OwnWalk
namespace Go.Proofs.YtoeomlmnejhgpaaDoor
open Go.RowKit

/-- A block of L digits that may be written. -/
def OutAt (wr : World) (B L : Nat) (o : Nat → Nat) : Prop := B < wr.heap.size ∧ ∀ j, j < L → wr.cell? ⟨B, j, none⟩ = some (.int .u64 (o j : Nat)) ∧ wr.frozen? ⟨B, j, none⟩ = false
theorem OutAt.drewN {wr : World} {B L : Nat} {o : Nat → Nat} (h : OutAt wr B L o) (n : Nat) : OutAt (wr.drewN n) B L o := h
theorem OutAt.set {wr : World} {B L : Nat} {o : Nat → Nat} (h : OutAt wr B L o) (p y : Nat) (hp : p < L) : OutAt (wr.setCell ⟨B, p, none⟩ (.int .u64 (y : Nat))) B L (upd o p y) := by
  refine ⟨by simpa using h.1, fun j hj => ⟨?_, ?_⟩⟩
  · by_cases e : j = p
    · subst e
      rw [World.cell?_setCell_same _ _ _ (h.2 j hj).1]
      simp [upd]
    · rw [World.cell?_setCell_other _ _ _ _ (by intro e2; apply e; injection e2 with _ e3; exact e3.symm), (h.2 j hj).1]
      simp [upd, e]
  · rw [World.frozen?_setCell]; exact (h.2 j hj).2

/-- One digit in the place of another. -/
theorem vd_set (o : Nat → Nat) (p y : Nat) : ∀ L, p < L → vd (upd o p y) L + 65536 ^ p * o p = vd o L + 65536 ^ p * y
  | 0, h => by omega
  | L + 1, h => by
    simp only [vd]
    by_cases e : p = L
    · subst e
      rw [vd_congr (d := upd o p y) (e := o) (fun j hj => by simp [upd, show ¬ j = p by omega])]
      simp only [upd, if_true]
      omega
    · have := vd_set o p y L (by omega)
      rw [show upd o p y L = o L by simp [upd, show ¬ L = p by omega]]
      omega

/-- What the inner loop of Product keeps: the number of all digits, and what is carried. -/
def PRel (n m i j c : Nat) (da db o0 o : Nat → Nat) : Prop :=
  c < 65536 ∧ (∀ t, t < n + m → o t < 65536) ∧ (∀ t, i + m ≤ t → t < n + m → o t = 0) ∧ vd o (n + m) + 65536 ^ (i + j) * c = vd o0 (n + m) + 65536 ^ i * da i * vd db j
theorem prel_next {n m i j c x : Nat} {da db o0 o : Nat → Nat} (h : PRel n m i j c da db o0 o) (hi : i < n) (hj : j < m) (hx : x = o (i + j) + da i * db j + c) (ha : da i < 65536) (hb : db j < 65536) :
    PRel n m i (j + 1) (x / 65536) da db o0 (upd o (i + j) (x % 65536)) := by
  obtain ⟨hc, ho, hz, hv⟩ := h
  have hop := ho (i + j) (by omega)
  have hab : da i * db j ≤ 65535 * 65535 := Nat.mul_le_mul (by omega) (by omega)
  refine ⟨by omega, fun t ht => ?_, fun t h1 h2 => ?_, ?_⟩
  · unfold upd; split
    · omega
    · exact ho t ht
  · unfold upd; rw [if_neg (by omega)]; exact hz t h1 h2
  · have h1 := vd_set o (i + j) (x % 65536) (n + m) (by omega)
    have e : x = x % 65536 + 65536 * (x / 65536) := by omega
    have e1 : 65536 ^ (i + j) * x = 65536 ^ (i + j) * (x % 65536) + 65536 ^ (i + (j + 1)) * (x / 65536) := by
      rw [show i + (j + 1) = (i + j) + 1 by omega, Nat.pow_succ, Nat.mul_assoc, ← Nat.mul_add, ← e]
    have e2 : 65536 ^ (i + j) * x = 65536 ^ (i + j) * o (i + j) + 65536 ^ (i + j) * (da i * db j) + 65536 ^ (i + j) * c := by rw [hx, Nat.mul_add, Nat.mul_add]
    have e3 : 65536 ^ i * da i * vd db (j + 1) = 65536 ^ i * da i * vd db j + 65536 ^ (i + j) * (da i * db j) := by
      simp only [vd]
      rw [Nat.mul_add, Nat.pow_add]
      congr 1
      simp only [Nat.mul_assoc, Nat.mul_left_comm]
    rw [e3]
    omega
theorem prel_end {n m i c : Nat} {da db o0 o : Nat → Nat} (h : PRel n m i m c da db o0 o) (hi : i < n) (hv0 : vd o0 (n + m) = vd da i * vd db m) :
    (∀ t, t < n + m → upd o (i + m) c t < 65536) ∧ (∀ t, i + 1 + m ≤ t → t < n + m → upd o (i + m) c t = 0) ∧ vd (upd o (i + m) c) (n + m) = vd da (i + 1) * vd db m := by
  obtain ⟨hc, ho, hz, hv⟩ := h
  refine ⟨fun t ht => ?_, fun t h1 h2 => ?_, ?_⟩
  · unfold upd; split
    · exact hc
    · exact ho t ht
  · unfold upd; rw [if_neg (by omega)]; exact hz t (by omega) h2
  · have h1 := vd_set o (i + m) c (n + m) (by omega)
    rw [hz (i + m) (Nat.le_refl _) (by omega), Nat.mul_zero, Nat.add_zero] at h1
    rw [h1, hv, hv0]
    simp only [vd]
    rw [Nat.add_mul]

theorem madeCells_at (k j : Nat) (h : j < k) : (madeCells (Value.int .u64 0).cells (k * 1)).toList[j]? = some (.int .u64 ((0 : Nat) : Int)) := by
  simp [madeCells, Value.cells, h, Nat.mod_one]
theorem vd_nought (L : Nat) : vd (fun _ => 0) L = 0 := by
  induction L with
  | zero => rfl
  | succ L ih => simp [vd, ih]

set_option maxRecDepth 100000 in
set_option maxHeartbeats 4000000 in
theorem product_digits (ba ca bb cb n m : Nat) (da db : Nat → Nat) (hn : (n : Int) ≤ 1000000) (hm : (m : Int) ≤ 1000000) (ha : ∀ j, j < n → da j < 65536) (hb : ∀ j, j < m → db j < 65536) (w : World) (hA : Dg w ba n da) (hB : Dg w bb m db) :
    Calls Tryd.prog 88 #[.slice (some ⟨ba, 0, none⟩) n ca, .slice (some ⟨bb, 0, none⟩) m cb] w (MkDg (n + m) (vd da n * vd db m) w) := by
  have Ha := Lib.hid ha; clear ha
  have Hb := Lib.hid hb; clear hb
  have HA := Lib.hid hA; clear hA
  have HB := Lib.hid hB; clear hB
  have hn0 : (0 : Int) ≤ n := by omega
  have hm0 : (0 : Int) ≤ m := by omega
  obtain ⟨i0, hi, hz0, hz1, hz2⟩ := info_parts info22
  obtain ⟨L, hL⟩ : ∃ L : Nat, (n : Int) + (m : Int) = (L : Int) := ⟨n + m, by omega⟩
  have HL : Hid (n + m = L) := Lib.hid (by omega)
  have hLb : (L : Int) ≤ 2000000 := by omega
  go_enter Tryd.func88, Tryd.ntmps88
  go_wp2_with (at_make; refine wpList_make_full _ rfl _ _ 71 rfl w.heap.size 34 i0 (.int .u64 0) 1 Tryd.underlying71 hi hz0 hz1 .i64 .i64 _ _ L rfl rfl rfl rfl (by rw [hz2]; omega) (by unfold maxLen; omega) (Nat.le_refl _) ?_; intro w0 hown0 hgrow0)
  have hout : OutAt w0 w.heap.size L (fun _ => 0) := ⟨(hown0.lt _ rfl).2, fun j hj => ⟨(hown0.cellAt j (by omega)).trans (madeCells_at L j hj), hown0.frozenAt j⟩⟩
  have hbel : Below w.heap.size w w0 := (Below.refl _ _).grown hgrow0 (Nat.le_refl _) (fun k hk => by cases hk)
  have HW := Lib.hid (And.intro hout hbel)
  clear hout hbel hown0 hgrow0 hL
  go_wp2
  go_loopw [6] (fun iv wr => ∃ i : Nat, i ≤ n ∧ iv = .int .i64 i ∧ Hid (∃ o : Nat → Nat, OutAt wr w.heap.size L o ∧ Below w.heap.size w wr ∧ (∀ t, t < n + m → o t < 65536) ∧ (∀ t, i + m ≤ t → t < n + m → o t = 0) ∧ vd o (n + m) = vd da i * vd db m)) (fun iv _ => n - (intOf iv).toNat)
  case atStart => exact ⟨0, Nat.zero_le _, rfl, Lib.hid ⟨fun _ => 0, HW.out.1, HW.out.2, fun _ _ => (by show (0 : Nat) < 65536; omega), fun _ _ _ => rfl, by rw [vd_nought]; simp [vd]⟩⟩
  case round =>
    obtain ⟨i, hin, rfl, H⟩ := hrel
    have hi0 : (0 : Int) ≤ i := by omega
    have hi1 : (i : Int) ≤ 1000000 := by omega
    by_cases hlt : i < n
    · obtain ⟨o0, hO0, hB0, hd0, hz0', hv0⟩ := H.out
      have HV0 := Lib.hid hv0; clear hv0
      have HO0 := Lib.hid (And.intro hO0 (And.intro hB0 (And.intro hd0 hz0'))); clear hO0 hB0 hd0 hz0' H
      go_wp2
      go_loopw [7, 8] (fun cv jv wr2 => ∃ j c : Nat, j ≤ m ∧ jv = .int .i64 j ∧ cv = .int .u64 c ∧ Hid (∃ o : Nat → Nat, OutAt wr2 w.heap.size L o ∧ Below w.heap.size w wr2 ∧ PRel n m i j c da db o0 o)) (fun _ jv _ => m - (intOf jv).toNat)
      case atStart => exact ⟨0, 0, Nat.zero_le _, rfl, rfl, Lib.hid ⟨o0, HO0.out.1, HO0.out.2.1, by omega, HO0.out.2.2.1, HO0.out.2.2.2, by simp [vd]⟩⟩
      case round =>
        obtain ⟨j, c, hjm, rfl, rfl, H⟩ := hrel
        obtain ⟨o, hO, hBw, hP⟩ := H.out
        have hj0 : (0 : Int) ≤ j := by omega
        have hj1 : (j : Int) ≤ 1000000 := by omega
        have hc0 : (0 : Int) ≤ c := by omega
        have hc1 : (c : Int) < 65536 := by have := hP.1; omega
        by_cases hjl : j < m
        · obtain ⟨p, hp⟩ : ∃ p : Nat, (i : Int) + (j : Int) = (p : Int) := ⟨i + j, by omega⟩
          have HPI : Hid (i + j = p) := Lib.hid (by omega)
          have hp0 : (0 : Int) ≤ p := by omega
          have hpL : (p : Int) < (L : Int) := by have := HL.out; omega
          have hil : (i : Int) < (n : Int) := by omega
          have hjl' : (j : Int) < (m : Int) := by omega
          have co : wr.cell? ⟨w.heap.size, p, none⟩ = some (.int .u64 (o p : Nat)) := (hO.2 p (by omega)).1
          have fo : wr.frozen? ⟨w.heap.size, p, none⟩ = false := (hO.2 p (by omega)).2
          have cA : wr.cell? ⟨ba, i, none⟩ = some (.int .u64 (da i : Nat)) := (hBw.cell (p := ⟨ba, i, none⟩) HA.out.1).trans (HA.out.2 i hlt)
          have cB : wr.cell? ⟨bb, j, none⟩ = some (.int .u64 (db j : Nat)) := (hBw.cell (p := ⟨bb, j, none⟩) HB.out.1).trans (HB.out.2 j hjl)
          obtain ⟨q, hq⟩ : ∃ q : Nat, q = da i * db j := ⟨_, rfl⟩
          have hab : da i * db j ≤ 65535 * 65535 := Nat.mul_le_mul (by have := Ha.out i hlt; omega) (by have := Hb.out j hjl; omega)
          have hqb : q ≤ 4294836225 := by rw [hq]; exact hab
          have hqi : IntKind.u64.wrap (((da i : Nat) : Int) * ((db j : Nat) : Int)) = (q : Int) := by
            rw [IntKind.wrap_u64, hq]
            have e0 : ((da i : Nat) : Int) * ((db j : Nat) : Int) = ((da i * db j : Nat) : Int) := by simp
            rw [e0]; omega
          have hop : o p < 65536 := hP.2.1 p (by have := HL.out; omega)
          obtain ⟨x, hx⟩ : ∃ x : Nat, x = o p + q + c := ⟨_, rfl⟩
          have hxi : ((o p : Nat) : Int) + (q : Int) + (c : Int) = (x : Int) := by omega
          have hxb : x < 8589934592 := by omega
          have hand : bits .and .u64 (x : Int) 65535 = ((x % 65536 : Nat) : Int) := and_low16 x (by omega)
          have HN : Hid (PRel n m i (j + 1) (x / 65536) da db o0 (upd o p (x % 65536))) := Lib.hid (by
            have := prel_next (x := x) hP hlt hjl (by rw [HPI.out, hx, hq]) (Ha.out i hlt) (Hb.out j hjl)
            rwa [HPI.out] at this)
          have HAND := Lib.hid hand; clear hand
          have HOB := Lib.hid (And.intro hO hBw); clear hO hBw
          have HQ := Lib.hid hq; clear hq
          have HXX := Lib.hid hx; clear hx
          clear hP H hab
          have hq0 : (0 : Int) ≤ q := by omega
          have hq1 : (q : Int) ≤ 4294836225 := by omega
          have hx0 : (0 : Int) ≤ x := by omega
          have hx1 : (x : Int) < 8589934592 := by omega
          have ho0 : (0 : Int) ≤ (o p : Nat) := by omega
          have ho1 : ((o p : Nat) : Int) < 65536 := by omega
          clear hqb hxb hop
          go_wp2
          go_quiet (fail)
          go_wp2
          go_roundw
          case rel =>
            refine ⟨j + 1, x / 65536, by omega, by go_num, by go_num, Lib.hid ⟨upd o p (x % 65536), ?_, ?_, HN.out⟩⟩
            · rw [HAND.out]; exact (HOB.out.1.drewN nq).set p (x % 65536) (by omega)
            · exact (below_drewN HOB.out.2 nq).setCell (Nat.le_refl _) _
          case measure => simp [intOf]; omega
        · obtain rfl : j = m := by omega
          obtain ⟨p, hp⟩ : ∃ p : Nat, (i : Int) + (j : Int) = (p : Int) := ⟨i + j, by omega⟩
          have HPI : Hid (i + j = p) := Lib.hid (by omega)
          have hp0 : (0 : Int) ≤ p := by omega
          have hpL : (p : Int) < (L : Int) := by have := HL.out; omega
          have co : wr.cell? ⟨w.heap.size, p, none⟩ = some (.int .u64 (o p : Nat)) := (hO.2 p (by omega)).1
          have fo : wr.frozen? ⟨w.heap.size, p, none⟩ = false := (hO.2 p (by omega)).2
          have HN := Lib.hid (prel_end hP hlt HV0.out)
          have HOB := Lib.hid (And.intro hO hBw); clear hO hBw hP H
          go_wp2
          go_roundw
          case rel =>
            refine ⟨i + 1, by omega, by go_num, Lib.hid ⟨upd o p c, HOB.out.1.set p c (by omega), HOB.out.2.setCell (Nat.le_refl _) _, ?_, ?_, ?_⟩⟩
            · rw [← HPI.out]; exact HN.out.1
            · rw [← HPI.out]; exact HN.out.2.1
            · rw [← HPI.out]; exact HN.out.2.2
          case measure => simp [intOf]; omega
    · obtain rfl : i = n := by omega
      obtain ⟨o, hO, hBw, hd, -, hv⟩ := H.out
      go_wp2
      go_ret
      rw [HL.out] at hv hd ⊢
      exact ⟨w.heap.size, L, o, rfl, Nat.le_refl _, ⟨hO.1, fun j hj => (hO.2 j hj).1⟩, hd, hv, hBw⟩
end Go.Proofs.YtoeomlmnejhgpaaDoor

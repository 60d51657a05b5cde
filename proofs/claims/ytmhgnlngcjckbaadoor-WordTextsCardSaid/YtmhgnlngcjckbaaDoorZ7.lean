/- A word's decimal digits, read back: what word.Parse tells of what Decimal tells. (With it, merged: IsDec · Append · Parse · Tie2 · RParse · RParseB · Parses · DecP.) -/
import Derived.Test.YtmhgnlngcjckbaaDoorZ1
import Derived.BigQuiet
import Derived.WalkKit
import Derived.Laws.Strings
import Derived.Test.YtmhgnlngcjckbaaDoorZ4
import Derived.Test.YtmhgnlngcjckbaaDoorZ3
import Derived.BigRegion
import Derived.IntWalk
import Derived.Test.YtmhgnlngcjckbaaDoorZ5
import Derived.Test.YtmhgnlngcjckbaaDoorZ6
namespace Go.Proofs.YtmhgnlngcjckbaaDoor
open Go.RowKit

theorem bytes_ne {s : ByteArray} (h0 : 0 < s.size) : ¬ s.toList = [] ∧ s.toList.isEmpty = false := by
  have h : ¬ s.toList = [] := fun h => by
    rw [ByteArray.toList_eq] at h
    have h2 : s.data.size = 0 := by
      have := congrArg List.length h
      simpa using this
    have h3 : 0 < s.data.size := h0
    omega
  exact ⟨h, by simpa using h⟩


set_option maxRecDepth 100000 in
set_option maxHeartbeats 2000000 in
theorem isdec_plain (s : ByteArray) (N : Nat) (w : World) (h0 : 0 < s.size) (h78 : s.size ≤ 78) (hz : ¬ ((s[0]'h0).toNat : Int) = 48) (hN : N ≤ s.size) (good : ∀ j (hj : j < s.size), j < N → 48 ≤ s[j].toNat ∧ s[j].toNat ≤ 57) (bad : ∀ hj : N < s.size, s[N].toNat < 48 ∨ 57 < s[N].toNat) :
    Calls Tryd.prog 24 #[.string s] w fun e w' => e = .returned (.bool (decide (N = s.size))) ∧ w = w' := by
  obtain ⟨e1, e2⟩ := bytes_ne h0
  have e3 : (s.size : Int) ≤ 78 := by omega
  have HG := Lib.hid good; clear good
  have HB := Lib.hid bad; clear bad
  go_enter Tryd.func24, Tryd.ntmps24
  go_wp2_with fail
  go_loop [22, 3] (fun iv _ => ∃ k : Nat, k ≤ N ∧ iv = .int .i64 k) (fun iv _ => s.size - (intOf iv).toNat)
  case atStart => exact ⟨0, by omega, rfl⟩
  case round =>
    obtain ⟨k, hk, rfl⟩ := hrel
    have hk0 : (0 : Int) ≤ k := by omega
    have hk1 : (k : Int) ≤ 78 := by omega
    by_cases hlt : k < N
    · have hks : k < s.size := by omega
      have hki : (k : Int) < s.size := by omega
      obtain ⟨g1, g2⟩ := HG.out k hks hlt
      have g3 : ¬ ((s[k].toNat : Nat) : Int) < 48 := by omega
      have g4 : ¬ (57 : Int) < ((s[k].toNat : Nat) : Int) := by omega
      have g5 : ((s[k].toNat : Nat) : Int) ≤ 57 := by omega
      clear g1 g2
      go_wp2
      all_goals
        go_round
        case rel => exact ⟨k + 1, by omega, by go_num⟩
        case measure => simp [intOf]; omega
    · obtain rfl : k = N := by omega
      by_cases hks : k < s.size
      · have hki : (k : Int) < s.size := by omega
        have hd : decide (k = s.size) = false := by rw [decide_eq_false_iff_not]; omega
        have HD := Lib.hid hd; clear hd
        rcases HB.out hks with b1 | b1
        · have g3 : ((s[k].toNat : Nat) : Int) < 48 := by omega
          clear b1
          go_wp2
          all_goals
            go_ret
            exact ⟨by rw [HD.out]; rfl, rfl⟩
        · have g3 : ¬ ((s[k].toNat : Nat) : Int) < 48 := by omega
          have g4 : (57 : Int) < ((s[k].toNat : Nat) : Int) := by omega
          clear b1
          go_wp2
          all_goals
            go_ret
            exact ⟨by rw [HD.out]; rfl, rfl⟩
      · have hki : ¬ (k : Int) < s.size := by omega
        have hd : decide (k = s.size) = true := by rw [decide_eq_true_eq]; omega
        have HD := Lib.hid hd; clear hd
        go_wp2
        all_goals
          go_ret
          exact ⟨by rw [HD.out]; rfl, rfl⟩

set_option maxRecDepth 100000 in
set_option maxHeartbeats 2000000 in
theorem isdec_nought (s : ByteArray) (N : Nat) (w : World) (h0 : 0 < s.size) (h78 : s.size ≤ 78) (hz : ((s[0]'h0).toNat : Int) = 48) (hq : (s.toList == [48]) = true) (hN : N ≤ s.size) (good : ∀ j (hj : j < s.size), j < N → 48 ≤ s[j].toNat ∧ s[j].toNat ≤ 57) (bad : ∀ hj : N < s.size, s[N].toNat < 48 ∨ 57 < s[N].toNat) :
    Calls Tryd.prog 24 #[.string s] w fun e w' => e = .returned (.bool (decide (N = s.size))) ∧ w = w' := by
  obtain ⟨e1, e2⟩ := bytes_ne h0
  have e3 : (s.size : Int) ≤ 78 := by omega
  have HG := Lib.hid good; clear good
  have HB := Lib.hid bad; clear bad
  go_enter Tryd.func24, Tryd.ntmps24
  go_wp2_with fail
  go_loop [22, 3] (fun iv _ => ∃ k : Nat, k ≤ N ∧ iv = .int .i64 k) (fun iv _ => s.size - (intOf iv).toNat)
  case atStart => exact ⟨0, by omega, rfl⟩
  case round =>
    obtain ⟨k, hk, rfl⟩ := hrel
    have hk0 : (0 : Int) ≤ k := by omega
    have hk1 : (k : Int) ≤ 78 := by omega
    by_cases hlt : k < N
    · have hks : k < s.size := by omega
      have hki : (k : Int) < s.size := by omega
      obtain ⟨g1, g2⟩ := HG.out k hks hlt
      have g3 : ¬ ((s[k].toNat : Nat) : Int) < 48 := by omega
      have g4 : ¬ (57 : Int) < ((s[k].toNat : Nat) : Int) := by omega
      have g5 : ((s[k].toNat : Nat) : Int) ≤ 57 := by omega
      clear g1 g2
      go_wp2
      all_goals
        go_round
        case rel => exact ⟨k + 1, by omega, by go_num⟩
        case measure => simp [intOf]; omega
    · obtain rfl : k = N := by omega
      by_cases hks : k < s.size
      · have hki : (k : Int) < s.size := by omega
        have hd : decide (k = s.size) = false := by rw [decide_eq_false_iff_not]; omega
        have HD := Lib.hid hd; clear hd
        rcases HB.out hks with b1 | b1
        · have g3 : ((s[k].toNat : Nat) : Int) < 48 := by omega
          clear b1
          go_wp2
          all_goals
            go_ret
            exact ⟨by rw [HD.out]; rfl, rfl⟩
        · have g3 : ¬ ((s[k].toNat : Nat) : Int) < 48 := by omega
          have g4 : (57 : Int) < ((s[k].toNat : Nat) : Int) := by omega
          clear b1
          go_wp2
          all_goals
            go_ret
            exact ⟨by rw [HD.out]; rfl, rfl⟩
      · have hki : ¬ (k : Int) < s.size := by omega
        have hd : decide (k = s.size) = true := by rw [decide_eq_true_eq]; omega
        have HD := Lib.hid hd; clear hd
        go_wp2
        all_goals
          go_ret
          exact ⟨by rw [HD.out]; rfl, rfl⟩

set_option maxRecDepth 100000 in
set_option maxHeartbeats 2000000 in
theorem isdec_long (s : ByteArray) (w : World) (h78 : 78 < s.size) (hs : s.size ≤ maxLen) : Calls Tryd.prog 24 #[.string s] w fun e w' => e = .returned (.bool false) ∧ w = w' := by
  unfold maxLen at hs
  obtain ⟨e1, e2⟩ := bytes_ne (s := s) (by omega)
  have e3 : (78 : Int) < s.size := by omega
  go_enter Tryd.func24, Tryd.ntmps24
  go_wp2
  all_goals
    go_ret
    exact ⟨rfl, rfl⟩
set_option maxRecDepth 100000 in
set_option maxHeartbeats 2000000 in
theorem isdec_empty (s : ByteArray) (w : World) (h : s.toList = []) : Calls Tryd.prog 24 #[.string s] w fun e w' => e = .returned (.bool false) ∧ w = w' := by
  go_enter Tryd.func24, Tryd.ntmps24
  go_wp2
  all_goals
    go_ret
    exact ⟨rfl, rfl⟩
set_option maxRecDepth 100000 in
set_option maxHeartbeats 2000000 in
theorem isdec_led (s : ByteArray) (w : World) (h0 : 0 < s.size) (h78 : s.size ≤ 78) (hz : ((s[0]'h0).toNat : Int) = 48) (hq : (s.toList == [48]) = false) : Calls Tryd.prog 24 #[.string s] w fun e w' => e = .returned (.bool false) ∧ w = w' := by
  obtain ⟨e1, e2⟩ := bytes_ne h0
  have e3 : (s.size : Int) ≤ 78 := by omega
  go_enter Tryd.func24, Tryd.ntmps24
  go_wp2
  all_goals
    go_ret
    exact ⟨rfl, rfl⟩
end Go.Proofs.YtmhgnlngcjckbaaDoor
namespace Go.Proofs.YtmhgnlngcjckbaaDoor
open Go.RowKit

theorem But.drew1 {S : Nat} {w w' : World} (h : But S w w') : But S w w'.drew := ⟨h.os, h.tape, h.output, h.size, h.block, h.frozen⟩
/-- What appendDigit leaves. -/
def AdPost (B r0 r1 r2 r3 : Nat) (b : Bool) (w : World) (e : Ending) (w' : World) : Prop :=
  e = .returned (.bool b) ∧ But B w w' ∧ w'.heap[B]? = some (.cells #[.int .u64 r0, .int .u64 r1, .int .u64 r2, .int .u64 r3] 24 (0, 0))

set_option maxRecDepth 100000 in
set_option maxHeartbeats 2000000 in
theorem append_walk (B a0 a1 a2 a3 d r0 r1 r2 r3 k0 k1 k2 k3 : Nat) (hd : (d : Int) ≤ 255) (w : World) (hrow : w.heap[B]? = some (.cells #[.int .u64 a0, .int .u64 a1, .int .u64 a2, .int .u64 a3] 24 (0, 0))) (c0 : w.cell? ⟨B, 0, none⟩ = some (.int .u64 a0)) (c1 : w.cell? ⟨B, 1, none⟩ = some (.int .u64 a1)) (c2 : w.cell? ⟨B, 2, none⟩ = some (.int .u64 a2)) (c3 : w.cell? ⟨B, 3, none⟩ = some (.int .u64 a3)) (f0 : w.frozen? ⟨B, 0, none⟩ = false) (f1 : w.frozen? ⟨B, 1, none⟩ = false) (f2 : w.frozen? ⟨B, 2, none⟩ = false) (f3 : w.frozen? ⟨B, 3, none⟩ = false)
    (h0 : ∀ w, Calls Tryd.prog 45 #[.int .u64 a0, .int .u64 10, .int .u64 0, .int .u64 d] w fun e w' => e = .returned (.tuple #[.int .u64 r0, .int .u64 k0]) ∧ w = w')
    (h1 : ∀ w, Calls Tryd.prog 45 #[.int .u64 a1, .int .u64 10, .int .u64 0, .int .u64 k0] w fun e w' => e = .returned (.tuple #[.int .u64 r1, .int .u64 k1]) ∧ w = w')
    (h2 : ∀ w, Calls Tryd.prog 45 #[.int .u64 a2, .int .u64 10, .int .u64 0, .int .u64 k1] w fun e w' => e = .returned (.tuple #[.int .u64 r2, .int .u64 k2]) ∧ w = w')
    (h3 : ∀ w, Calls Tryd.prog 45 #[.int .u64 a3, .int .u64 10, .int .u64 0, .int .u64 k2] w fun e w' => e = .returned (.tuple #[.int .u64 r3, .int .u64 k3]) ∧ w = w') :
    Calls Tryd.prog 25 #[.pointer (some ⟨B, 0, none⟩), .int .u8 d] w (AdPost B r0 r1 r2 r3 ((k3 : Int) == 0) w) := by
  have hd0 : (0 : Int) ≤ d := by omega
  have hdw : IntKind.u64.wrap (d : Int) = (d : Int) := by rw [IntKind.wrap_u64]; omega
  have HROW := Lib.hid hrow; clear hrow
  have H0 := Lib.hid h0; clear h0
  have H1 := Lib.hid h1; clear h1
  have H2 := Lib.hid h2; clear h2
  have H3 := Lib.hid h3; clear h3
  go_enter Tryd.func25, Tryd.ntmps25
  go_wp2
  refine wp_loop_rounds 5 ?_
  rw [rounds_succ]; go_wp2_with fail
  go_region
  go_wp2_with fail
  go_region_with (go_at_call 45; refine (H0.out _).mono ?_; rintro e w' ⟨rfl, rfl⟩)
  go_wp2_with fail
  rw [rounds_succ]; go_wp2_with fail
  go_region
  go_wp2_with fail
  go_region_with (go_at_call 45; refine (H1.out _).mono ?_; rintro e w' ⟨rfl, rfl⟩)
  go_wp2_with fail
  rw [rounds_succ]; go_wp2_with fail
  go_region
  go_wp2_with fail
  go_region_with (go_at_call 45; refine (H2.out _).mono ?_; rintro e w' ⟨rfl, rfl⟩)
  go_wp2_with fail
  rw [rounds_succ]; go_wp2_with fail
  go_region
  go_wp2_with fail
  go_region_with (go_at_call 45; refine (H3.out _).mono ?_; rintro e w' ⟨rfl, rfl⟩)
  go_wp2_with fail
  rw [rounds_succ]; go_wp2
  go_ret
  refine ⟨?_, ?_, ?_⟩
  · simp
  · repeat (first | exact But.refl _ _ | refine But.set ?_ _ _ | refine But.drew1 ?_)
  · exact heap_setCell_same _ _ _ _ _ _ (heap_setCell_same _ _ _ _ _ _ (heap_setCell_same _ _ _ _ _ _ (heap_setCell_same _ _ _ _ _ _ HROW.out)))

theorem append_num {n0 n1 n2 n3 r0 r1 r2 r3 k0 k1 k2 k3 d : Nat} (h0 : r0 + 18446744073709551616 * k0 = n0 * 10 + 0 + d) (h1 : r1 + 18446744073709551616 * k1 = n1 * 10 + 0 + k0) (h2 : r2 + 18446744073709551616 * k2 = n2 * 10 + 0 + k1) (h3 : r3 + 18446744073709551616 * k3 = n3 * 10 + 0 + k2) :
    n4 r0 r1 r2 r3 + 115792089237316195423570985008687907853269984665640564039457584007913129639936 * k3 = n4 n0 n1 n2 n3 * 10 + d := by
  unfold n4; omega
/-- .. over numbers: the word behind the pointer is ten times as much and the digit, if that fits in. -/
def AdNum (B X d : Nat) (w : World) (e : Ending) (w' : World) : Prop :=
  e = .returned (.bool (decide (X * 10 + d < 115792089237316195423570985008687907853269984665640564039457584007913129639936))) ∧ But B w w' ∧ w'.heap[B]? = some (.cells (pw (X * 10 + d)) 24 (0, 0))
theorem append_any (B X d : Nat) (hd : d < 256) (w : World) (hrow : w.heap[B]? = some (.cells (pw X) 24 (0, 0))) (hX : X < 115792089237316195423570985008687907853269984665640564039457584007913129639936) :
    Calls Tryd.prog 25 #[.pointer (some ⟨B, 0, none⟩), .int .u8 d] w (AdNum B X d w) := by
  obtain ⟨a0, a1, a2, a3, u0, u1, u2, u3, ea, na⟩ := wv_parts X
  rw [wv_pw] at ea
  have ea' : pw X = #[.int .u64 a0, .int .u64 a1, .int .u64 a2, .int .u64 a3] := Value.agg.inj ea
  rw [Nat.mod_eq_of_lt hX] at na
  rw [ea'] at hrow
  obtain ⟨r0, k0, l0, m0, e0, c0⟩ := mulAdd_ex a0 10 0 d u0 (by omega) (by omega) (by omega)
  obtain ⟨r1, k1, l1, m1, e1, c1⟩ := mulAdd_ex a1 10 0 k0 u1 (by omega) (by omega) m0
  obtain ⟨r2, k2, l2, m2, e2, c2⟩ := mulAdd_ex a2 10 0 k1 u2 (by omega) (by omega) m1
  obtain ⟨r3, k3, l3, m3, e3, c3⟩ := mulAdd_ex a3 10 0 k2 u3 (by omega) (by omega) m2
  have hs := append_num e0 e1 e2 e3
  rw [na] at hs
  have hr := n4_lt l0 l1 l2 l3
  have hw := wv_n4 l0 l1 l2 l3
  have hc : ∀ p, (#[Value.int .u64 a0, .int .u64 a1, .int .u64 a2, .int .u64 a3] : Array Value)[p]? = w.cell? ⟨B, p, none⟩ := fun p => (cell_of_row w B p _ _ _ hrow).symm
  refine (append_walk B a0 a1 a2 a3 d r0 r1 r2 r3 k0 k1 k2 k3 (by omega) w hrow (hc 0).symm (hc 1).symm (hc 2).symm (hc 3).symm (frozen_of_row w B 0 _ _ hrow) (frozen_of_row w B 1 _ _ hrow) (frozen_of_row w B 2 _ _ hrow) (frozen_of_row w B 3 _ _ hrow) c0 c1 c2 c3).mono ?_
  rintro e w' ⟨rfl, hb, hh⟩
  refine ⟨?_, hb, ?_⟩
  · congr 2
    rw [Bool.eq_iff_iff, beq_iff_eq, decide_eq_true_eq]
    omega
  · rw [hh]
    have h1 : wv (X * 10 + d) = wv (n4 r0 r1 r2 r3) := wv_congr (by rw [← hs, Nat.add_mul_mod_self_left])
    rw [hw, wv_pw] at h1
    rw [Value.agg.inj h1]
end Go.Proofs.YtmhgnlngcjckbaaDoor
namespace Go.Proofs.YtmhgnlngcjckbaaDoor
open Go.RowKit

/-- The number of n digits, the highest first. -/
def dnum (f : Nat → Nat) : Nat → Nat
  | 0 => 0
  | n + 1 => dnum f n * 10 + f n
theorem dnum_mono (f : Nat → Nat) (k : Nat) : ∀ e, dnum f k ≤ dnum f (k + e)
  | 0 => Nat.le_refl _
  | e + 1 => Nat.le_trans (dnum_mono f k e) (by show dnum f (k + e) ≤ dnum f (k + e) * 10 + f (k + e); omega)
/-- What Parse leaves where it is digits that it reads. -/
def ParsePost (V : Nat) (w : World) (e : Ending) (w' : World) : Prop := e = .returned (if V < 115792089237316195423570985008687907853269984665640564039457584007913129639936 then .tuple #[.agg (pw V), .int .i64 0] else .tuple #[.agg #[.int .u64 0, .int .u64 0, .int .u64 0, .int .u64 0], .int .i64 2]) ∧ Below w.heap.size w w'
theorem results_ct {fn : Func} {p q : Tmp} (h : fn.results = #[.cell p 24, .tmp q]) (tmps : Array Value) (w : World) (g : Nat) (cs : Array Value) (v : Value)
    (hp : tmps.getD p undef = .pointer (some ⟨g, 0, none⟩)) (hq : tmps.getD q undef = v) (hg : w.heap[g]? = some (.cells cs 24 (0, 0))) (hi : (Tryd.prog.info? 24).map (·.size) = some cs.size) :
    (results fn tmps).run Tryd.prog w = .ok (.tuple #[.agg cs, v]) w := by
  have hp' : tmps[p]?.getD undef = .pointer (some ⟨g, 0, none⟩) := by simpa using hp
  have hq' : tmps[q]?.getD undef = v := by simpa using hq
  simp [results, h, hp', hq', asAddr, run_loadVar_row w g 24 24 cs (0, 0) _ hg Tryd.underlying24 rfl hi]

set_option maxRecDepth 100000 in
set_option maxHeartbeats 2000000 in
theorem parse_bad (s : ByteArray) (w : World) (hD : ∀ w, Calls Tryd.prog 24 #[.string s] w fun e w' => e = .returned (.bool false) ∧ w = w') :
    Calls Tryd.prog 12 #[.string s] w fun e w' => e = .returned (.tuple #[.agg #[.int .u64 0, .int .u64 0, .int .u64 0, .int .u64 0], .int .i64 4]) ∧ Below w.heap.size w w' := by
  have HD := Lib.hid hD; clear hD
  go_enter Tryd.func12, Tryd.ntmps12
  go_wp2_with fail
  refine (HD.out _).mono ?_
  rintro e w' ⟨rfl, rfl⟩
  go_wp2
  refine bodyPost_ret (v := .tuple #[.agg #[.int .u64 0, .int .u64 0, .int .u64 0, .int .u64 0], .int .i64 4]) (by simp [results, Tryd.results12, go_sem]; try rfl) rfl ⟨rfl, by go_grown⟩

set_option maxRecDepth 100000 in
set_option maxHeartbeats 2000000 in
theorem parse_walk (s : ByteArray) (f : Nat → Nat) (w : World) (hn : s.size ≤ 78) (hf : ∀ j (hj : j < s.size), s[j].toNat = f j + 48 ∧ f j ≤ 9) (hD : ∀ w, Calls Tryd.prog 24 #[.string s] w fun e w' => e = .returned (.bool true) ∧ w = w') :
    Calls Tryd.prog 12 #[.string s] w (ParsePost (dnum f s.size) w) := by
  have HD := Lib.hid hD; clear hD
  have HF := Lib.hid hf; clear hf
  go_enter Tryd.func12, Tryd.ntmps12
  go_wp2_with fail
  refine (HD.out _).mono ?_
  rintro e w' ⟨rfl, rfl⟩
  go_wp2_with fail
  go_loopw [13] (fun iv wr => ∃ k : Nat, k ≤ s.size ∧ iv = .int .i64 k ∧ Hid (dnum f k < 115792089237316195423570985008687907853269984665640564039457584007913129639936 ∧ wr.heap[w.heap.size]? = some (.cells #[.int .u64 0, .int .u64 0, .int .u64 0, .int .u64 0] 24 (0, 0)) ∧ wr.heap[w.heap.size + 1]? = some (.cells (pw (dnum f k)) 24 (0, 0)) ∧ Below w.heap.size w wr)) (fun iv _ => s.size - (intOf iv).toNat)
  case atStart => exact ⟨0, by omega, rfl, Lib.hid ⟨by show 0 < 115792089237316195423570985008687907853269984665640564039457584007913129639936; omega, (heap2 _ _ _).1, by rw [show dnum f 0 = 0 from rfl]; exact (heap2 _ _ _).2, by go_grown⟩⟩
  case round =>
    obtain ⟨k, hk, rfl, H⟩ := hrel
    have hk0 : (0 : Int) ≤ k := by omega
    have hk1 : (k : Int) ≤ 78 := by omega
    by_cases hlt : k < s.size
    · have hki : (k : Int) < s.size := by omega
      obtain ⟨d1, d2⟩ := HF.out k hlt
      obtain ⟨d, hd⟩ : ∃ d, f k = d := ⟨_, rfl⟩
      rw [hd] at d1 d2
      have hv : ((s[k].toNat : Nat) : Int) - 48 = (d : Int) := by omega
      have hb1 : (48 : Int) ≤ ((s[k].toNat : Nat) : Int) := by omega
      have hb2 : ((s[k].toNat : Nat) : Int) ≤ 57 := by omega
      have hw : IntKind.u8.wrap (d : Int) = (d : Int) := by rw [IntKind.wrap_u8]; omega
      have HAD := Lib.hid (append_any (w.heap.size + 1) (dnum f k) d (by omega) wr H.out.2.2.1 H.out.1)
      have hnx : dnum f (k + 1) = dnum f k * 10 + d := by rw [dnum, hd]
      have HNX := Lib.hid hnx; clear hnx hd d1 d2
      go_wp2_with fail
      refine HAD.out.mono ?_
      rintro e w1 ⟨rfl, hbut, hrow⟩
      have hr0 := (hbut.block w.heap.size (by omega)).trans H.out.2.1
      have hB := But.below H.out.2.2.2 hbut (by omega)
      by_cases hfit : dnum f k * 10 + d < 115792089237316195423570985008687907853269984665640564039457584007913129639936
      · have hdc : decide (dnum f k * 10 + d < 115792089237316195423570985008687907853269984665640564039457584007913129639936) = true := decide_eq_true hfit
        rw [hdc]
        have HR := Lib.hid (And.intro hfit (And.intro hr0 (And.intro hrow hB)))
        clear hfit hdc hr0 hrow hB hbut HAD
        go_wp2_with fail
        go_roundw
        case rel => exact ⟨k + 1, by omega, by go_num, Lib.hid (by rw [HNX.out]; exact HR.out)⟩
        case measure => first | (simp [intOf]; done) | (simp [intOf]; omega)
      · have hdc : decide (dnum f k * 10 + d < 115792089237316195423570985008687907853269984665640564039457584007913129639936) = false := decide_eq_false hfit
        rw [hdc]
        have hbig : ¬ dnum f s.size < 115792089237316195423570985008687907853269984665640564039457584007913129639936 := fun h => by
          have h1 := dnum_mono f (k + 1) (s.size - (k + 1))
          rw [show k + 1 + (s.size - (k + 1)) = s.size by omega, HNX.out] at h1
          omega
        have HBIG := Lib.hid hbig; clear hbig
        have HR := Lib.hid (And.intro hr0 hB)
        clear hfit hdc hr0 hrow hB hbut HAD
        go_wp2_with (refine wpList_store_row rfl 24 _ _ rfl w.heap.size #[.int .u64 0, .int .u64 0, .int .u64 0, .int .u64 0] rfl rfl 24 #[.int .u64 0, .int .u64 0, .int .u64 0, .int .u64 0] HR.out.1 infoWord rfl (by simp [Value.oneCell']) ?_)
        (try simp only [Exit.inBlock, Exit.then])
        exact bodyPost_ret (v := .tuple #[.agg #[.int .u64 0, .int .u64 0, .int .u64 0, .int .u64 0], .int .i64 2]) (results_ct (p := 2) (q := 3) rfl _ _ w.heap.size _ _ rfl rfl (setRow_heap _ _ _ _ _ _ HR.out.1) infoWord) rfl ⟨by rw [if_neg HBIG.out], below_setRow HR.out.2 (Nat.le_refl _) _⟩
    · obtain rfl : k = s.size := by omega
      go_wp2_with (first | (refine wpList_load_row rfl 24 _ rfl (w.heap.size + 1) rfl 24 _ (0, 0) _ H.out.2.2.1 Tryd.underlying24 rfl infoWord ?_) | (refine wpList_store_row rfl 24 _ _ rfl w.heap.size (pw (dnum f s.size)) rfl rfl 24 #[.int .u64 0, .int .u64 0, .int .u64 0, .int .u64 0] H.out.2.1 infoWord rfl (pw_one _) ?_))
      (try simp only [Exit.inBlock, Exit.then])
      exact bodyPost_ret (v := .tuple #[.agg (pw (dnum f s.size)), .int .i64 0]) (results_ct (p := 2) (q := 3) rfl _ _ w.heap.size _ _ rfl rfl (setRow_heap _ _ _ _ _ _ H.out.2.1) infoWord) rfl ⟨by rw [if_pos H.out.1], below_setRow H.out.2.2.2 (Nat.le_refl _) _⟩
end Go.Proofs.YtmhgnlngcjckbaaDoor
namespace Go.Proofs.YtmhgnlngcjckbaaDoor
open Go.RowKit

/-- An operation waits for another, over at most n steps. -/
def depB (ops : Array Oper) : Nat → Nat → Nat → Bool
  | 0, _, _ => false
  | n + 1, j, i => match ops[j]? with
    | some o => o.after.any fun e => Region.binds .any e && (e.on == i || depB ops n e.on i)
    | none => false
theorem dep_listed {ops : Array Oper} {listed : Array Bool} (h : ∀ j o, listed.getD j false = true → ops[j]? = some o → ∀ e ∈ o.after, Region.binds .any e = true → listed.getD e.on false = true) :
    ∀ n j i, depB ops n j i = true → listed.getD j false = true → listed.getD i false = true
  | 0, j, i, hd, _ => by simp [depB] at hd
  | n + 1, j, i, hd, hj => by
    unfold depB at hd
    cases ho : ops[j]? with
    | none => rw [ho] at hd; cases hd
    | some o =>
      rw [ho] at hd
      rw [Array.any_eq_true] at hd
      obtain ⟨k, hk, h3⟩ := hd
      have he : o.after[k] ∈ o.after := Array.getElem_mem hk
      generalize o.after[k] = e at *
      simp only [Bool.and_eq_true, Bool.or_eq_true, beq_iff_eq] at h3
      have hl := h j o hj ho e he h3.1
      rcases h3.2 with h4 | h4
      · rw [← h4]; exact hl
      · exact dep_listed h n e.on i h4 hl
/-- Whatever writes a slot waits for i. -/
def laterB (ops : Array Oper) (i t : Nat) : Bool := (List.range ops.size).all fun j => match ops[j]? with
  | some o => !(o.dst == some t) || depB ops ops.size j i
  | none => true
theorem later_spec {ops : Array Oper} {i t : Nat} (h : laterB ops i t = true) (j : Nat) (o : Oper) (ho : ops[j]? = some o) (hd : o.dst = some t) : depB ops ops.size j i = true := by
  unfold laterB at h
  rw [List.all_eq_true] at h
  have := h j (by simpa using (Array.getElem?_eq_some_iff.1 ho).1)
  rw [ho] at this
  simpa [hd] using this

section
variable {P : Program} {ops : Array Oper} {Q : Exit → Act → World → Prop} {C : World → Prop} {φ : Nat → (Nat → Value) → World → Prop} {R : World → World → Prop} {a0 : Act}

/-- What is known where the operation i comes up. -/
def KnownV (ops : Array Oper) (φ : Nat → (Nat → Value) → World → Prop) (a0 : Act) (i : Nat) (o : Oper) (a : Act) (w : World) : Prop :=
  (∀ t, laterB ops i t = true → a.tmps.getD t undef = a0.tmps.getD t undef) ∧ (∀ e ∈ o.after, Region.binds .any e = true → ∀ oj, ops[e.on]? = some oj → φ e.on (slots a) w)
def StepV (P : Program) (ops : Array Oper) (Q : Exit → Act → World → Prop) (C : World → Prop) (φ : Nat → (Nat → Value) → World → Prop) (R : World → World → Prop) (k : Nat) (o : Oper) (a : Act) (w : World) : Prop :=
  if Region.wanted o (yielded ops a.tmps) then o.wp P a w (fun a' w' => ∃ v, a' = a.put o.dst v ∧ C w' ∧ φ k (slots (a.put o.dst v)) w' ∧ R w w') Q else φ k (slots (a.put o.dst undef)) w
def StepsV (P : Program) (ops : Array Oper) (Q : Exit → Act → World → Prop) (C : World → Prop) (φ : Nat → (Nat → Value) → World → Prop) (R : World → World → Prop) (a0 : Act) : Nat → List Oper → Prop
  | _, [] => True
  | k, o :: l => (∀ a w, C w → a.tmps.size = a0.tmps.size → KnownV ops φ a0 k o a w → StepV P ops Q C φ R k o a w) ∧ StepsV P ops Q C φ R a0 (k + 1) l
theorem StepsV.at_ : ∀ {l : List Oper} {k : Nat}, StepsV P ops Q C φ R a0 k l → ∀ (i : Nat) (o : Oper), l[i]? = some o → ∀ a w, C w → a.tmps.size = a0.tmps.size → KnownV ops φ a0 (k + i) o a w → StepV P ops Q C φ R (k + i) o a w
  | [], _, _, i, o, hi => by simp at hi
  | o :: l, k, h, 0, o', hi => by simp at hi; subst hi; exact h.1
  | o :: l, k, h, i + 1, o', hi => by
    have := StepsV.at_ h.2 i o' (by simpa using hi)
    rwa [show k + 1 + i = k + (i + 1) by omega] at this

theorem wpAny_tie3 (rd : Nat → List Nat) (rk : Nat → Nat) (hdist : distinctB ops.toList = true) (hlex : rankB ops rk = true) (hon : ∀ (i : Nat) (o : Oper), ops[i]? = some o → ∀ e ∈ o.after, e.on < ops.size) (hown : ownB ops rd = true)
    (hrd : ∀ i s s' w, (∀ t ∈ rd i, s t = s' t) → φ i s w → φ i s' w)
    (hφ : ∀ i v w w', R w w' → φ i v w → φ i v w') (hst : StepsV P ops Q C φ R a0 0 ops.toList)
    (hQ : ∀ (f : Oper → Value) w, C w → (∀ i o, ops[i]? = some o → φ i (slots (putAll f ops.toList a0)) w) → Q .normal (putAll f ops.toList a0) w) :
    ∀ (fuel : Nat) (listed : Array Bool) (a : Act) (w : World), listed.size = ops.size → listed.toList.count false ≤ fuel → C w → a.tmps.size = a0.tmps.size → a.defers = a0.defers →
      (∀ t, (∀ j o, ops[j]? = some o → o.dst = some t → listed.getD j false = false) → a.tmps.getD t undef = a0.tmps.getD t undef) → (∀ i o, listed.getD i false = true → ops[i]? = some o → φ i (slots a) w ∧ ∀ e ∈ o.after, Region.binds .any e = true → listed.getD e.on false = true) → wpAny P .any ops Q fuel listed a w := by
  have done : ∀ (listed : Array Bool) (a : Act) (w : World), (∀ i, i < ops.size → listed.getD i false = true) → C w → a.tmps.size = a0.tmps.size → a.defers = a0.defers →
      (∀ t, (∀ j o, ops[j]? = some o → o.dst = some t → listed.getD j false = false) → a.tmps.getD t undef = a0.tmps.getD t undef) → (∀ i o, listed.getD i false = true → ops[i]? = some o → φ i (slots a) w ∧ ∀ e ∈ o.after, Region.binds .any e = true → listed.getD e.on false = true) → Q .normal a w := by
    intro listed a w hall hC hs hd hk hp
    have hb := put_back hs hd (fun t ht => hk t (fun j o ho hd' => by
      simp only [isDst, List.any_eq_false] at ht
      have hm : o ∈ ops.toList := List.mem_of_getElem? (i := j) (by simpa using ho)
      exact absurd (show (o.dst == some t) = true by simp [hd']) (ht o hm)))
    rw [hb]
    exact hQ _ w hC (fun i o ho => by rw [← hb]; exact (hp i o (hall i (Array.getElem?_eq_some_iff.1 ho).1) ho).1)
  intro fuel
  induction fuel with
  | zero =>
    intro listed a w hsz hc hC hs hd hk hp
    have hno : false ∉ listed.toList := List.count_eq_zero.1 (by omega)
    have hall : ∀ i, i < ops.size → listed.getD i false = true := fun i hi => by
      have hlt : i < listed.size := by omega
      have hm : listed[i] ∈ listed.toList := by simp
      simp only [Array.getD_eq_getD_getElem?, hlt, Array.getElem?_eq_getElem, Option.getD_some]
      cases h : listed[i] with
      | true => rfl
      | false => rw [h] at hm; exact absurd hm hno
    refine ⟨?_, done listed a w hall hC hs hd hk hp⟩
    rw [List.eq_nil_iff_forall_not_mem]
    intro j hj
    obtain ⟨h0, o, ho, -⟩ := mem_ready.1 hj
    have hlt := (Array.getElem?_eq_some_iff.1 ho).1
    have h1 := hall j hlt
    simp [show j < listed.size by omega] at h0 h1
    rw [h0] at h1
    cases h1
  | succ fuel ih =>
    intro listed a w hsz hc hC hs hd hk hp
    refine ⟨fun hr => ?_, fun i hi => ?_⟩
    · refine done listed a w ?_ hC hs hd hk hp
      -- the least that isn't listed would be ready
      have key : ∀ r i, rk i < r → i < ops.size → listed.getD i false = true := by
        intro r
        induction r with
        | zero => intro i h; omega
        | succ r ihr =>
          intro i hri hi
          cases h : listed.getD i false with
          | true => rfl
          | false =>
            have ho : ops[i]? = some ops[i] := Array.getElem?_eq_getElem hi
            have : i ∈ Region.ready .any ops listed := mem_ready.2 ⟨by simpa [show i < listed.size by omega] using h, ops[i], ho, fun e he hb => by
              have hl := hlex
              unfold rankB at hl
              rw [List.all_eq_true] at hl
              have := hl i (by simpa using hi)
              rw [ho] at this
              simp only [Array.all_eq_true_iff_forall_mem] at this
              have hlt := this e he
              rw [hb] at hlt
              simp at hlt
              exact ihr e.on (by omega) (hon i _ ho e he)⟩
            rw [hr] at this
            cases this
      exact fun i hi => key (rk i + 1) i (by omega) hi
    · obtain ⟨h0, o, ho, hall⟩ := mem_ready.1 hi
      have hlt : i < ops.size := (Array.getElem?_eq_some_iff.1 ho).1
      have hl' : ops.toList[i]? = some o := by simpa using ho
      have hstep := hst.at_ i o hl' a w hC hs ⟨fun t ht => hk t (fun j oj hoj hdj => by
        have hdep := later_spec (by simpa using ht) j oj hoj hdj
        cases hl : listed.getD j false with
        | false => rfl
        | true =>
          have := dep_listed (fun j o h1 h2 => (hp j o h1 h2).2) _ _ _ hdep hl
          rw [getD_both h0] at this; cases this), fun e he hb oj hj => (hp e.on oj (by have := hall e he hb; simpa using this) hj).1⟩
      rw [Nat.zero_add] at hstep
      have go : ∀ (v : Value) (w' : World), C w' → φ i (slots (a.put o.dst v)) w' → (∀ j u, φ j u w → φ j u w') → wpAny P .any ops Q fuel (listed.setIfInBounds i true) (a.put o.dst v) w' := by
        intro v w' hC' hv hm
        refine ih _ _ _ (by simpa using hsz) ?_ hC' (by rw [put_size]; exact hs) (by rw [put_defers]; exact hd) ?_ ?_
        · have hil : i < listed.size := by omega
          have e0 : listed[i] = false := by simpa [hil] using h0
          rw [Array.toList_setIfInBounds, List.count_set (by simpa using hil)]
          have : listed.toList[i]'(by simpa using hil) = false := by simpa using e0
          simp only [this]
          simp
          have hpos : 0 < listed.toList.count false := List.count_pos_iff.2 (by rw [← e0]; simp)
          simp at hpos
          simp at hc
          omega
        · intro t ht
          have hne : o.dst ≠ some t := fun e => by
            have h1 := ht i o ho e
            rw [getD_set_same (by omega)] at h1; cases h1
          rw [put_other _ _ _ _ hne]
          refine hk t (fun j oj hoj hdj => ?_)
          have h1 := ht j oj hoj hdj
          by_cases q : i = j
          · subst q; rw [getD_set_same (by omega)] at h1; cases h1
          · rwa [getD_set_ne false q] at h1
        · intro j oj hj hoj
          by_cases e : i = j
          · subst e
            have : oj = o := Option.some.inj (hoj.symm.trans ho)
            subst this
            refine ⟨hv, fun e he hb => ?_⟩
            have h1 := hall e he hb
            by_cases q : i = e.on
            · rw [← q]; exact getD_set_same (by omega)
            · rw [getD_set_ne false q]; simpa using h1
          · rw [getD_set_ne false e] at hj
            obtain ⟨h1, h2⟩ := hp j oj hj hoj
            refine ⟨hm _ _ (hrd j _ _ w (fun t ht => ?_) h1), fun e' he hb => ?_⟩
            · have hne : o.dst ≠ some t := fun hd' => by
                rcases own_spec hown hoj ht with h3 | h3 | ⟨e', he, hb, ok, hok, hkd⟩
                · exact distinct_spec hdist i j o oj t hl' (by simpa using hoj) e hd' h3
                · simp only [isDst, List.any_eq_false] at h3
                  exact h3 o (List.mem_of_getElem? hl') (by simp [hd'])
                · have h4 := h2 e' he hb
                  have h5 : i ≠ e'.on := fun q => by rw [← q, getD_both h0] at h4; cases h4
                  exact distinct_spec hdist i e'.on o ok t hl' (by simpa using hok) h5 hd' hkd
              exact (put_other _ _ _ _ hne).symm
            · by_cases q : i = e'.on
              · rw [← q]; exact getD_set_same (by omega)
              · rw [getD_set_ne false q]; exact h2 e' he hb
      unfold wpOp
      rw [ho]
      simp only
      unfold StepV at hstep
      split
      · rename_i hw
        rw [if_pos hw] at hstep
        refine .inl (Oper.wp_mono ?_ hstep)
        rintro a' w' ⟨v, rfl, hC', hv, hR⟩
        exact go v w' hC' hv (fun j u h => hφ j u w w' hR h)
      · rename_i hw
        rw [if_neg hw] at hstep
        exact go undef w hC hstep (fun j u h => h)

/-- THE LAW. -/
theorem region_tie3 {id : Nat} {l : List Oper} {w : World} (C : World → Prop) (φ : Nat → (Nat → Value) → World → Prop) (R : World → World → Prop) (rd : Nat → List Nat) (rk : Nat → Nat) (hm : P.follows .mixedOrders = true)
    (hB : (distinctB l && rankB l.toArray rk && ownB l.toArray rd && insideB l.toArray) = true) (hC : C w.drew)
    (hrd : ∀ i s s' w, (∀ t ∈ rd i, s t = s' t) → φ i s w → φ i s' w) (hφ : ∀ i v w w', R w w' → φ i v w → φ i v w') (hst : StepsV P l.toArray Q C φ R a0 0 l)
    (hQ : ∀ (f : Oper → Value) w, C w → (∀ i o, l[i]? = some o → φ i (slots (putAll f l a0)) w) → Q .normal (putAll f l a0) w) : (Code.region id l.toArray true).wp P Q a0 w := by
  simp only [Bool.and_eq_true] at hB
  refine wp_region_any hm (wpAny_tie3 (C := C) (φ := φ) (R := R) (a0 := a0) rd rk hB.1.1.1 hB.1.1.2 (inside_spec hB.2) hB.1.2 hrd hφ hst (fun f w hC h => hQ f w hC (fun i o ho => h i o (by simpa using ho))) _ _ _ w.drew (by simp) (by simp) hC rfl rfl (fun _ _ => rfl) ?_)
  intro i o hi
  simp at hi
  rcases Nat.lt_or_ge i l.length with h | h
  · simp [h] at hi
  · simp [Nat.not_lt.2 h] at hi

/-! What each kind of operation must do. -/
theorem vv_val {k : Nat} {o : Oper} {a : Act} {w : World} (v : Value) (hw : Region.wanted o (yielded ops a.tmps) = true) (hr : (execOp a.eval o).run P w = .ok (.value v) w) (hC : C w) (hv : φ k (slots (a.put o.dst v)) w) (hR : R w w) : StepV P ops Q C φ R k o a w := by
  unfold StepV
  rw [if_pos hw]
  unfold Oper.wp
  rw [hr]
  exact ⟨v, rfl, hC, hv, hR⟩
theorem vv_skip {k : Nat} {o : Oper} {a : Act} {w : World} (hw : Region.wanted o (yielded ops a.tmps) = false) (hv : φ k (slots (a.put o.dst undef)) w) : StepV P ops Q C φ R k o a w := by
  unfold StepV
  rw [if_neg (by rw [hw]; exact Bool.false_ne_true)]
  exact hv
theorem vv_new {k : Nat} {o : Oper} {a : Act} {w w' : World} (v : Value) (hw : Region.wanted o (yielded ops a.tmps) = true) (hr : (execOp a.eval o).run P w = .ok (.value v) w') (hC : C w') (hv : φ k (slots (a.put o.dst v)) w') (hR : R w w') : StepV P ops Q C φ R k o a w := by
  unfold StepV
  rw [if_pos hw]
  unfold Oper.wp
  rw [hr]
  exact ⟨v, rfl, hC, hv, hR⟩
theorem vv_v {k : Nat} {o : Oper} {a : Act} {w w' : World} (s : Sem Value) (v : Value) (hw : Region.wanted o (yielded ops a.tmps) = true) (ho : execOp a.eval o = (do let x ← s; pure (.value x))) (hr : s.run P w = .ok v w') (hC : C w') (hv : φ k (slots (a.put o.dst v)) w') (hR : R w w') : StepV P ops Q C φ R k o a w :=
  vv_new v hw (by rw [ho]; simp only [Sem.run_bind, hr, Result.andThen_ok, Sem.run_pure]) hC hv hR
theorem vv_load {k : Nat} {o : Oper} {a : Act} {w : World} (T : TypeId) (x : Operand) (p v : Value) (ho : o.op = .load T x) (hw : Region.wanted o (yielded ops a.tmps) = true) (hp : a.eval x = p)
    (hr : (Instr.loadAt T p).run P w = .ok v w) (hC : C w) (hv : φ k (slots (a.put o.dst v)) w) (hR : R w w) : StepV P ops Q C φ R k o a w :=
  vv_val v hw (by
    unfold execOp
    rw [ho]
    simp only [hp, Sem.run_bind, hr, Result.andThen_ok, Sem.run_pure]) hC hv hR
theorem vv_call {k : Nat} {o : Oper} {a : Act} {w : World} (f : FuncId) (args : Array Value) (hw : Region.wanted o (yielded ops a.tmps) = true) (he : (execOp a.eval o).run P w = .ok (.enter f args) w)
    (hc : Calls P f args w fun e w' => ∃ v, e = .returned v ∧ C w' ∧ φ k (slots (a.put o.dst v)) w' ∧ R w w') : StepV P ops Q C φ R k o a w := by
  unfold StepV
  rw [if_pos hw]
  unfold Oper.wp
  rw [he]
  refine Calls.mono hc ?_
  rintro e w' ⟨v, rfl, h1, h2, h3⟩
  exact ⟨v, rfl, h1, h2, h3⟩
theorem vv_store {k : Nat} {o : Oper} {a : Act} {w w' : World} (hw : Region.wanted o (yielded ops a.tmps) = true) (hd : o.dst = none) (hr : (execOp a.eval o).run P w = .ok .skip w') (hC : C w') (hv : φ k (slots a) w') (hR : R w w') : StepV P ops Q C φ R k o a w := by
  unfold StepV
  rw [if_pos hw]
  unfold Oper.wp
  rw [hr]
  refine ⟨undef, by rw [hd], hC, ?_, hR⟩
  rw [hd]; exact hv
end
end Go.Proofs.YtmhgnlngcjckbaaDoor
namespace Go.Proofs.YtmhgnlngcjckbaaDoor
open Go.RowKit

theorem ds_one (w : World) (x : Nat) (hx : x < 65536) : DS 1 x (.slice (some ⟨w.heap.size, 0, none⟩) 1 1) (w.alloc (.cells #[.int .u64 (x : Nat)] 22)) :=
  ⟨w.heap.size, 1, fun _ => x, rfl, dg_one w x, fun _ _ => hx, by simp [vd]⟩
theorem sum_dsl {n m A B : Nat} {a b : Value} {w : World} (hn : n ≤ 1000) (hm : m ≤ 1000) (ha : DS n A a w) (hb : DS m B b w) : Calls Tryd.prog 26 #[a, b] w fun e w' => ∃ v, e = .returned v ∧ Below w.heap.size w w' ∧ DS (max n m + 1) (A + B) v w' := by
  obtain ⟨ba, ca, da, rfl, hA, hal, rfl⟩ := ha
  obtain ⟨bb, cb, db, rfl, hB, hbl, rfl⟩ := hb
  exact (sum_any ba ca bb cb n m da db (by omega) (by omega) hal hbl w hA hB).mono fun _ _ h => mk_ds h
theorem product_dsl {n m A B : Nat} {a b : Value} {w : World} (hn : n ≤ 1000) (hm : m ≤ 1000) (ha : DS n A a w) (hb : DS m B b w) : Calls Tryd.prog 27 #[a, b] w fun e w' => ∃ v, e = .returned v ∧ Below w.heap.size w w' ∧ DS (n + m) (A * B) v w' := by
  obtain ⟨ba, ca, da, rfl, hA, hal, rfl⟩ := ha
  obtain ⟨bb, cb, db, rfl, hB, hbl, rfl⟩ := hb
  exact (product_digits ba ca bb cb n m da db (by omega) (by omega) hal hbl w hA hB).mono fun _ _ h => mk_ds h
theorem w16 : 65536 ^ 16 = 115792089237316195423570985008687907853269984665640564039457584007913129639936 := by rfl
/-- The worlds of a round: the digits so far lie in a slice; the result's block is still nought. -/
structure CQ (w : World) (n V : Nat) (v : Value) (wx : World) : Prop where
  old : Below w.heap.size w wx
  r0 : wx.heap[w.heap.size]? = some (.cells #[.int .u64 0, .int .u64 0, .int .u64 0, .int .u64 0] 24 (0, 0))
  ds : DS n V v wx
theorem CQ.below {w wx w' : World} {n V : Nat} {v : Value} (h : CQ w n V v wx) (hb : Below wx.heap.size wx w') : CQ w n V v w' :=
  ⟨h.old.trans (hb.mono h.old.size), (hb.block _ (Array.getElem?_eq_some_iff.1 h.r0).1).trans h.r0, h.ds.keep (RN.of hb)⟩
theorem CQ.drew {w wx : World} {n V : Nat} {v : Value} (h : CQ w n V v wx) : CQ w n V v wx.drew := ⟨h.old.drew, h.r0, h.ds⟩

set_option maxRecDepth 100000 in
set_option maxHeartbeats 4000000 in
theorem rparse_walk (s : ByteArray) (f : Nat → Nat) (w : World) (h0 : 0 < s.size) (hn : s.size ≤ 78) (hlead : 1 < s.size → ¬ ((s[0]'h0).toNat : Int) = 48) (hf : ∀ j (hj : j < s.size), s[j].toNat = f j + 48 ∧ f j ≤ 9) :
    Calls Tryd.prog 13 #[.string s] w (ParsePost (dnum f s.size) w) := by
  have e3 : (s.size : Int) ≤ 78 := by omega
  have e0 : ¬ (s.size : Int) = 0 := by omega
  have e4 : ¬ s = ByteArray.empty := fun h => by rw [h] at h0; exact absurd h0 (by decide)
  have e5 : ((s.size : Int) == 0) = false := by rw [beq_eq_false_iff_ne]; exact e0
  have HF := Lib.hid hf; clear hf
  by_cases h1 : 1 < s.size
  · have hz := hlead h1
    have e1 : (1 : Int) < s.size := by omega
    have e6 : (((s[0]'h0).toNat : Int) == 48) = false := by rw [beq_eq_false_iff_ne]; exact hz
    clear hlead
    go_enter Tryd.func13, Tryd.ntmps13
    go_wp2_with fail
    go_loopw [4, 5] (fun v iv wr => ∃ k : Nat, k ≤ s.size ∧ iv = .int .i64 k ∧ Hid (CQ w (2 * k) (dnum f k) v wr)) (fun _ iv _ => s.size - (intOf iv).toNat)
    case atStart => exact ⟨0, by omega, rfl, Lib.hid ⟨by go_grown, (heap2 _ _ _).1, ⟨_, _, fun _ => 0, rfl, ⟨by simp, fun j hj => by omega⟩, fun j hj => by omega, rfl⟩⟩⟩
    case round =>
      obtain ⟨k, hk, rfl, H⟩ := hrel
      have hk0 : (0 : Int) ≤ k := by omega
      have hk1 : (k : Int) ≤ 78 := by omega
      by_cases hlt : k < s.size
      · have hki : (k : Int) < s.size := by omega
        obtain ⟨d1, d2⟩ := HF.out k hlt
        obtain ⟨d, hd⟩ : ∃ d, f k = d := ⟨_, rfl⟩
        rw [hd] at d1 d2
        have hb1 : ¬ ((s[k].toNat : Nat) : Int) < 48 := by omega
        have hb2 : ¬ (57 : Int) < ((s[k].toNat : Nat) : Int) := by omega
        have hb3 : ((s[k].toNat : Nat) : Int) - 48 = (d : Int) := by omega
        have hw8 : IntKind.u8.wrap (d : Int) = (d : Int) := by rw [IntKind.wrap_u8]; omega
        have hw64 : IntKind.u64.wrap (d : Int) = (d : Int) := by rw [IntKind.wrap_u64]; omega
        have hnx : dnum f (k + 1) = dnum f k * 10 + d := by rw [dnum, hd]
        have HNX := Lib.hid hnx; clear hnx hd d1
        have HD9 := Lib.hid d2; clear d2
        have hix : ∀ w, (Instr.index 9 (.string s) (.int .i64 k)).run Tryd.prog w = .ok (.int .u8 (s[k].toNat : Nat)) w := fun w => by go_simp
        have hsb : ∀ w, (binOp BinOp.sub 5 (.int .u8 (s[k].toNat : Nat)) (.int .u8 48)).run Tryd.prog w = .ok (.int .u8 (d : Nat)) w := fun w => by go_simp
        have hcv : ∀ w, (convert 5 22 (.int .u8 (d : Nat))).run Tryd.prog w = .ok (.int .u64 (d : Nat)) w := fun w => by go_simp
        have hmx : max (2 * k + 1) 1 + 1 = 2 * (k + 1) := by omega
        have HIX := Lib.hid hix; clear hix
        have HSB := Lib.hid hsb; clear hsb
        have HCV := Lib.hid hcv; clear hcv
        have HMX := Lib.hid hmx; clear hmx
        go_wp2_with fail
        refine region_tie3 (CQ w (2 * k) (dnum f k) u4) (fun i sl wx => match i with | 0 => sl 44 = u4 | 1 => DS 1 10 (sl 45) wx | 2 => DS (2 * k + 1) (dnum f k * 10) (sl 46) wx | 3 => sl 47 = .string s | 4 => sl 48 = .int .i64 k | 5 => sl 49 = .int .u8 (s[k].toNat : Nat) | 6 => sl 50 = .int .u8 (d : Nat) | 7 => sl 51 = .int .u64 (d : Nat) | 8 => DS 1 d (sl 52) wx | 9 => DS (2 * (k + 1)) (dnum f k * 10 + d) (sl 53) wx | 10 => DS (2 * (k + 1)) (dnum f k * 10 + d) (sl 4) wx | _ => True) RN (fun i => match i with | 0 => [44] | 1 => [45] | 2 => [46] | 3 => [47] | 4 => [48] | 5 => [49] | 6 => [50] | 7 => [51] | 8 => [52] | 9 => [53] | 10 => [4] | _ => []) (fun i => i) (by kernel_rfl) (by kernel_rfl) H.out.drew ?_ ?_ ?_ ?_
        · intro i sl sl' wx he hp
          match i, he, hp with
          | 0, he, hp => exact (he 44 (by simp)).symm.trans hp
          | 1, he, hp => have h := he 45 (by simp); rw [h] at hp; exact hp
          | 2, he, hp => have h := he 46 (by simp); rw [h] at hp; exact hp
          | 3, he, hp => exact (he 47 (by simp)).symm.trans hp
          | 4, he, hp => exact (he 48 (by simp)).symm.trans hp
          | 5, he, hp => exact (he 49 (by simp)).symm.trans hp
          | 6, he, hp => exact (he 50 (by simp)).symm.trans hp
          | 7, he, hp => exact (he 51 (by simp)).symm.trans hp
          | 8, he, hp => have h := he 52 (by simp); rw [h] at hp; exact hp
          | 9, he, hp => have h := he 53 (by simp); rw [h] at hp; exact hp
          | 10, he, hp => have h := he 4 (by simp); rw [h] at hp; exact hp
          | _ + 11, _, _ => trivial
        · intro i sl wa wb hR hp
          match i, hp with
          | 0, hp => exact hp
          | 1, hp => exact hp.keep hR
          | 2, hp => exact hp.keep hR
          | 3, hp => exact hp
          | 4, hp => exact hp
          | 5, hp => exact hp
          | 6, hp => exact hp
          | 7, hp => exact hp
          | 8, hp => exact hp.keep hR
          | 9, hp => exact hp.keep hR
          | 10, hp => exact hp.keep hR
          | _ + 11, _ => trivial
        · refine ⟨?_, ?_, ?_, ?_, ?_, ?_, ?_, ?_, ?_, ?_, ?_, trivial⟩
          · intro a wx hC hsz hK
            exact vv_val u4 (by kernel_rfl) (by rw [← show a.tmps.getD 4 undef = u4 from hK.1 4 (by kernel_rfl)]; kernel_rfl) hC (slots_put _ _ _ (by rw [hsz]; exact of_decide_eq_true (by kernel_rfl))) (RN.refl _)
          · intro a wx hC hsz hK
            have hb : Below wx.heap.size wx (wx.alloc (.cells #[.int .u64 (10 : Nat)] 22)) := (Below.refl _ _).alloc (Nat.le_refl _) _
            refine vv_v (Instr.buildSlice 38 1 #[(0, .int .u64 10)]) (.slice (some ⟨wx.heap.size, 0, none⟩) 1 1) (by kernel_rfl) (by kernel_rfl) (w' := wx.alloc (.cells #[.int .u64 (10 : Nat)] 22)) (by kernel_rfl) (hC.below hb) ?_ (RN.of hb)
            show DS 1 10 _ _
            rw [slots_put _ _ _ (by rw [hsz]; exact of_decide_eq_true (by kernel_rfl))]
            exact ds_one wx 10 (by omega)
          · intro a wx hC hsz hK
            have h0 : a.tmps.getD 44 undef = u4 := hK.2 ⟨0, .data⟩ (by simp) rfl _ rfl
            have h1 := hK.2 ⟨1, .data⟩ (by simp) rfl _ rfl
            refine vv_call 27 #[a.tmps.getD 44 undef, a.tmps.getD 45 undef] (by kernel_rfl) (by kernel_rfl) ?_
            rw [h0]
            refine Calls.mono (product_dsl (by omega) (by omega) hC.ds h1) ?_
            rintro e w' ⟨v, rfl, hb, hv⟩
            exact ⟨v, rfl, hC.below hb, (by rw [slots_put _ _ _ (by rw [hsz]; exact of_decide_eq_true (by kernel_rfl))]; exact hv), RN.of hb⟩
          · intro a wx hC hsz hK
            exact vv_val (.string s) (by kernel_rfl) (by rw [← show a.tmps.getD 0 undef = .string s from hK.1 0 (by kernel_rfl)]; kernel_rfl) hC (slots_put _ _ _ (by rw [hsz]; exact of_decide_eq_true (by kernel_rfl))) (RN.refl _)
          · intro a wx hC hsz hK
            exact vv_val (.int .i64 k) (by kernel_rfl) (by rw [← show a.tmps.getD 5 undef = .int .i64 k from hK.1 5 (by kernel_rfl)]; kernel_rfl) hC (slots_put _ _ _ (by rw [hsz]; exact of_decide_eq_true (by kernel_rfl))) (RN.refl _)
          · intro a wx hC hsz hK
            have h0 : a.tmps.getD 47 undef = .string s := hK.2 ⟨3, .data⟩ (by simp) rfl _ rfl
            have h1 : a.tmps.getD 48 undef = .int .i64 k := hK.2 ⟨4, .data⟩ (by simp) rfl _ rfl
            refine vv_v (Instr.index 9 (a.tmps.getD 47 undef) (a.tmps.getD 48 undef)) (.int .u8 (s[k].toNat : Nat)) (by kernel_rfl) rfl ?_ hC (slots_put _ _ _ (by rw [hsz]; exact of_decide_eq_true (by kernel_rfl))) (RN.refl _)
            rw [h0, h1]; exact HIX.out wx
          · intro a wx hC hsz hK
            have h0 : a.tmps.getD 49 undef = .int .u8 (s[k].toNat : Nat) := hK.2 ⟨5, .data⟩ (by simp) rfl _ rfl
            refine vv_v (do eqGuard .sub 5 (.tmp 49) (.const (.int .u8 48)) (a.tmps.getD 49 undef) (.int .u8 48); binOp .sub 5 (a.tmps.getD 49 undef) (.int .u8 48)) (.int .u8 (d : Nat)) (by kernel_rfl) rfl ?_ hC (slots_put _ _ _ (by rw [hsz]; exact of_decide_eq_true (by kernel_rfl))) (RN.refl _)
            rw [h0]
            have hg : (eqGuard .sub 5 (.tmp 49) (.const (.int .u8 48)) (.int .u8 (s[k].toNat : Nat)) (.int .u8 48)).run Tryd.prog wx = .ok () wx := by kernel_rfl
            simp only [Sem.run_bind, hg, HSB.out wx, Result.andThen_ok]
          · intro a wx hC hsz hK
            have h0 : a.tmps.getD 50 undef = .int .u8 (d : Nat) := hK.2 ⟨6, .data⟩ (by simp) rfl _ rfl
            refine vv_v (convert 5 22 (a.tmps.getD 50 undef)) (.int .u64 (d : Nat)) (by kernel_rfl) rfl ?_ hC (slots_put _ _ _ (by rw [hsz]; exact of_decide_eq_true (by kernel_rfl))) (RN.refl _)
            rw [h0]; exact HCV.out wx
          · intro a wx hC hsz hK
            have h0 : a.tmps.getD 51 undef = .int .u64 (d : Nat) := hK.2 ⟨7, .data⟩ (by simp) rfl _ rfl
            have hb : Below wx.heap.size wx (wx.alloc (.cells #[.int .u64 (d : Nat)] 22)) := (Below.refl _ _).alloc (Nat.le_refl _) _
            refine vv_v (Instr.buildSlice 38 1 #[(0, a.tmps.getD 51 undef)]) (.slice (some ⟨wx.heap.size, 0, none⟩) 1 1) (by kernel_rfl) (by kernel_rfl) (w' := wx.alloc (.cells #[.int .u64 (d : Nat)] 22)) (by rw [h0]; kernel_rfl) (hC.below hb) ?_ (RN.of hb)
            show DS 1 d _ _
            rw [slots_put _ _ _ (by rw [hsz]; exact of_decide_eq_true (by kernel_rfl))]
            exact ds_one wx d (by have := HD9.out; omega)
          · intro a wx hC hsz hK
            have h0 := hK.2 ⟨2, .data⟩ (by simp) rfl _ rfl
            have h1 := hK.2 ⟨8, .data⟩ (by simp) rfl _ rfl
            refine vv_call 26 #[a.tmps.getD 46 undef, a.tmps.getD 52 undef] (by kernel_rfl) (by kernel_rfl) ?_
            have hs := sum_dsl (w := wx) (by omega) (by omega) h0 h1
            rw [HMX.out] at hs
            refine Calls.mono hs ?_
            rintro e w' ⟨v, rfl, hb, hv⟩
            exact ⟨v, rfl, hC.below hb, (by rw [slots_put _ _ _ (by rw [hsz]; exact of_decide_eq_true (by kernel_rfl))]; exact hv), RN.of hb⟩
          · intro a wx hC hsz hK
            have h0 := hK.2 ⟨9, .data⟩ (by simp) rfl _ rfl
            exact vv_val (a.tmps.getD 53 undef) (by kernel_rfl) (by kernel_rfl) hC (by rw [slots_put _ _ _ (by rw [hsz]; exact of_decide_eq_true (by kernel_rfl))]; exact h0) (RN.refl _)
        · intro fv wx hC hf
          have h4 : DS (2 * (k + 1)) (dnum f k * 10 + d) (slots (putAll fv _ _) 4) wx := hf 10 _ rfl
          clear hf
          have HC := Lib.hid hC; clear hC
          generalize e4 : slots (putAll fv _ _) 4 = v4 at h4
          have H5 := Lib.hid h4; clear h4
          simp only [putAll, Act.put, slots, List.setIfInBounds_toArray, List.set_cons_succ, List.set_cons_zero] at e4 ⊢
          simp only [Array.getD_eq_getD_getElem?, List.getElem?_toArray, List.getElem?_cons_succ, List.getElem?_cons_zero, Option.getD_some] at e4
          rw [e4]
          clear e4
          go_wp2_with fail
          go_roundw
          case rel => exact ⟨k + 1, by omega, by go_num, Lib.hid ⟨HC.out.old, HC.out.r0, by rw [HNX.out]; exact H5.out⟩⟩
          case measure => first | (simp [intOf]; done) | (simp [intOf]; omega)
      · obtain rfl : k = s.size := by omega
        obtain ⟨hold, hr0, b, cap, dd, hsv, hD, hdl, hdv⟩ := H.out
        subst hsv
        have HR := Lib.hid (And.intro hold (And.intro hr0 (And.intro hD (And.intro hdl hdv)))); clear hold hr0 hD hdl hdv H
        obtain ⟨n2, hn2⟩ : ∃ n2, 2 * s.size = n2 := ⟨_, rfl⟩
        rw [hn2] at HR ⊢
        have hn3 : (n2 : Int) ≤ 156 := by omega
        clear hn2
        go_wp2_with fail
        go_loop [6] (fun iv => ∃ j : Nat, 16 ≤ j ∧ iv = .int .i64 j ∧ Hid (∀ t, 16 ≤ t → t < j → t < n2 → dd t = 0)) (fun iv => n2 - (intOf iv).toNat)
        case atStart => exact ⟨16, by omega, rfl, Lib.hid (fun t h1 h2 => by omega)⟩
        case round =>
          obtain ⟨j, hj, rfl, HZ⟩ := hrel
          have hj0 : (0 : Int) ≤ j := by omega
          by_cases hjn : j < n2
          · have hjn' : (j : Int) < n2 := by omega
            have cj := HR.out.2.2.1.2 j hjn
            by_cases hdz : dd j = 0
            · have e1 : (((dd j : Nat) : Int) != 0) = false := by simp [hdz]
              have HDZ := Lib.hid hdz; clear hdz
              go_wp2_with fail
              go_round
              case rel => exact ⟨j + 1, by omega, by go_num, Lib.hid (fun t h1 h2 h3 => by
                by_cases e : t = j
                · rw [e]; exact HDZ.out
                · exact HZ.out t h1 (by omega) h3)⟩
              case measure => first | (simp [intOf]; done) | (simp [intOf]; omega)
            · have e1 : (((dd j : Nat) : Int) != 0) = true := by simp [hdz]
              have hbig : ¬ dnum f s.size < 115792089237316195423570985008687907853269984665640564039457584007913129639936 := fun hlt => hdz (vd_small (n := 16) (m := n2) (by rw [HR.out.2.2.2.2, w16]; exact hlt) j hj hjn)
              have HBIG := Lib.hid hbig; clear hbig hdz
              go_wp2_with (refine wpList_store_row rfl 24 _ _ rfl w.heap.size #[.int .u64 0, .int .u64 0, .int .u64 0, .int .u64 0] rfl rfl 24 #[.int .u64 0, .int .u64 0, .int .u64 0, .int .u64 0] HR.out.2.1 infoWord rfl (by simp [Value.oneCell']) ?_)
              (try simp only [Exit.inBlock, Exit.then])
              exact bodyPost_ret (v := .tuple #[.agg #[.int .u64 0, .int .u64 0, .int .u64 0, .int .u64 0], .int .i64 2]) (results_ct (p := 2) (q := 3) rfl _ _ w.heap.size _ _ rfl rfl (setRow_heap _ _ _ _ _ _ HR.out.2.1) infoWord) rfl ⟨by rw [if_neg HBIG.out], below_setRow HR.out.1 (Nat.le_refl _) _⟩
          · have hjn' : ¬ (j : Int) < n2 := by omega
            have hfit : dnum f s.size < 115792089237316195423570985008687907853269984665640564039457584007913129639936 := by
              have h := vd_full (d := dd) (min 16 n2) n2 (fun t h1 h2 => HZ.out t (by omega) (by omega) h2) (by omega)
              rw [← HR.out.2.2.2.2, h]
              refine Nat.lt_of_lt_of_le (vd_lt (fun t ht => HR.out.2.2.2.1 t (by omega))) ?_
              have := Nat.pow_le_pow_right (show 0 < 65536 by omega) (show min 16 n2 ≤ 16 by omega)
              rwa [w16] at this
            have HFIT := Lib.hid hfit; clear hfit
            have HWD : Hid (Calls Tryd.prog 28 #[.slice (some ⟨b, 0, none⟩) n2 cap] wr fun e w' => e = .returned (.agg (pw (dnum f s.size))) ∧ Below wr.heap.size wr w') := Lib.hid (by
              have h := word_any b cap n2 dd (by omega) HR.out.2.2.2.1 wr HR.out.2.2.1
              rw [HR.out.2.2.2.2] at h
              exact h)
            go_wp2_with fail
            refine HWD.out.mono ?_
            rintro e w1 ⟨rfl, hb⟩
            have h1 := (hb.block _ (Array.getElem?_eq_some_iff.1 HR.out.2.1).1).trans HR.out.2.1
            have H1 := Lib.hid (And.intro h1 (HR.out.1.trans (hb.mono HR.out.1.size))); clear h1 hb
            go_wp2_with (refine wpList_store_row rfl 24 _ _ rfl w.heap.size (pw (dnum f s.size)) rfl rfl 24 #[.int .u64 0, .int .u64 0, .int .u64 0, .int .u64 0] H1.out.1 infoWord rfl (pw_one _) ?_)
            (try simp only [Exit.inBlock, Exit.then])
            exact bodyPost_ret (v := .tuple #[.agg (pw (dnum f s.size)), .int .i64 0]) (results_ct (p := 2) (q := 3) rfl _ _ w.heap.size _ _ rfl rfl (setRow_heap _ _ _ _ _ _ H1.out.1) infoWord) rfl ⟨by rw [if_pos HFIT.out], below_setRow H1.out.2 (Nat.le_refl _) _⟩
  · have e1 : ¬ (1 : Int) < s.size := by omega
    clear hlead
    go_enter Tryd.func13, Tryd.ntmps13
    go_wp2_with fail
    go_loopw [4, 5] (fun v iv wr => ∃ k : Nat, k ≤ s.size ∧ iv = .int .i64 k ∧ Hid (CQ w (2 * k) (dnum f k) v wr)) (fun _ iv _ => s.size - (intOf iv).toNat)
    case atStart => exact ⟨0, by omega, rfl, Lib.hid ⟨by go_grown, (heap2 _ _ _).1, ⟨_, _, fun _ => 0, rfl, ⟨by simp, fun j hj => by omega⟩, fun j hj => by omega, rfl⟩⟩⟩
    case round =>
      obtain ⟨k, hk, rfl, H⟩ := hrel
      have hk0 : (0 : Int) ≤ k := by omega
      have hk1 : (k : Int) ≤ 78 := by omega
      by_cases hlt : k < s.size
      · have hki : (k : Int) < s.size := by omega
        obtain ⟨d1, d2⟩ := HF.out k hlt
        obtain ⟨d, hd⟩ : ∃ d, f k = d := ⟨_, rfl⟩
        rw [hd] at d1 d2
        have hb1 : ¬ ((s[k].toNat : Nat) : Int) < 48 := by omega
        have hb2 : ¬ (57 : Int) < ((s[k].toNat : Nat) : Int) := by omega
        have hb3 : ((s[k].toNat : Nat) : Int) - 48 = (d : Int) := by omega
        have hw8 : IntKind.u8.wrap (d : Int) = (d : Int) := by rw [IntKind.wrap_u8]; omega
        have hw64 : IntKind.u64.wrap (d : Int) = (d : Int) := by rw [IntKind.wrap_u64]; omega
        have hnx : dnum f (k + 1) = dnum f k * 10 + d := by rw [dnum, hd]
        have HNX := Lib.hid hnx; clear hnx hd d1
        have HD9 := Lib.hid d2; clear d2
        have hix : ∀ w, (Instr.index 9 (.string s) (.int .i64 k)).run Tryd.prog w = .ok (.int .u8 (s[k].toNat : Nat)) w := fun w => by go_simp
        have hsb : ∀ w, (binOp BinOp.sub 5 (.int .u8 (s[k].toNat : Nat)) (.int .u8 48)).run Tryd.prog w = .ok (.int .u8 (d : Nat)) w := fun w => by go_simp
        have hcv : ∀ w, (convert 5 22 (.int .u8 (d : Nat))).run Tryd.prog w = .ok (.int .u64 (d : Nat)) w := fun w => by go_simp
        have hmx : max (2 * k + 1) 1 + 1 = 2 * (k + 1) := by omega
        have HIX := Lib.hid hix; clear hix
        have HSB := Lib.hid hsb; clear hsb
        have HCV := Lib.hid hcv; clear hcv
        have HMX := Lib.hid hmx; clear hmx
        go_wp2_with fail
        refine region_tie3 (CQ w (2 * k) (dnum f k) u4) (fun i sl wx => match i with | 0 => sl 44 = u4 | 1 => DS 1 10 (sl 45) wx | 2 => DS (2 * k + 1) (dnum f k * 10) (sl 46) wx | 3 => sl 47 = .string s | 4 => sl 48 = .int .i64 k | 5 => sl 49 = .int .u8 (s[k].toNat : Nat) | 6 => sl 50 = .int .u8 (d : Nat) | 7 => sl 51 = .int .u64 (d : Nat) | 8 => DS 1 d (sl 52) wx | 9 => DS (2 * (k + 1)) (dnum f k * 10 + d) (sl 53) wx | 10 => DS (2 * (k + 1)) (dnum f k * 10 + d) (sl 4) wx | _ => True) RN (fun i => match i with | 0 => [44] | 1 => [45] | 2 => [46] | 3 => [47] | 4 => [48] | 5 => [49] | 6 => [50] | 7 => [51] | 8 => [52] | 9 => [53] | 10 => [4] | _ => []) (fun i => i) (by kernel_rfl) (by kernel_rfl) H.out.drew ?_ ?_ ?_ ?_
        · intro i sl sl' wx he hp
          match i, he, hp with
          | 0, he, hp => exact (he 44 (by simp)).symm.trans hp
          | 1, he, hp => have h := he 45 (by simp); rw [h] at hp; exact hp
          | 2, he, hp => have h := he 46 (by simp); rw [h] at hp; exact hp
          | 3, he, hp => exact (he 47 (by simp)).symm.trans hp
          | 4, he, hp => exact (he 48 (by simp)).symm.trans hp
          | 5, he, hp => exact (he 49 (by simp)).symm.trans hp
          | 6, he, hp => exact (he 50 (by simp)).symm.trans hp
          | 7, he, hp => exact (he 51 (by simp)).symm.trans hp
          | 8, he, hp => have h := he 52 (by simp); rw [h] at hp; exact hp
          | 9, he, hp => have h := he 53 (by simp); rw [h] at hp; exact hp
          | 10, he, hp => have h := he 4 (by simp); rw [h] at hp; exact hp
          | _ + 11, _, _ => trivial
        · intro i sl wa wb hR hp
          match i, hp with
          | 0, hp => exact hp
          | 1, hp => exact hp.keep hR
          | 2, hp => exact hp.keep hR
          | 3, hp => exact hp
          | 4, hp => exact hp
          | 5, hp => exact hp
          | 6, hp => exact hp
          | 7, hp => exact hp
          | 8, hp => exact hp.keep hR
          | 9, hp => exact hp.keep hR
          | 10, hp => exact hp.keep hR
          | _ + 11, _ => trivial
        · refine ⟨?_, ?_, ?_, ?_, ?_, ?_, ?_, ?_, ?_, ?_, ?_, trivial⟩
          · intro a wx hC hsz hK
            exact vv_val u4 (by kernel_rfl) (by rw [← show a.tmps.getD 4 undef = u4 from hK.1 4 (by kernel_rfl)]; kernel_rfl) hC (slots_put _ _ _ (by rw [hsz]; exact of_decide_eq_true (by kernel_rfl))) (RN.refl _)
          · intro a wx hC hsz hK
            have hb : Below wx.heap.size wx (wx.alloc (.cells #[.int .u64 (10 : Nat)] 22)) := (Below.refl _ _).alloc (Nat.le_refl _) _
            refine vv_v (Instr.buildSlice 38 1 #[(0, .int .u64 10)]) (.slice (some ⟨wx.heap.size, 0, none⟩) 1 1) (by kernel_rfl) (by kernel_rfl) (w' := wx.alloc (.cells #[.int .u64 (10 : Nat)] 22)) (by kernel_rfl) (hC.below hb) ?_ (RN.of hb)
            show DS 1 10 _ _
            rw [slots_put _ _ _ (by rw [hsz]; exact of_decide_eq_true (by kernel_rfl))]
            exact ds_one wx 10 (by omega)
          · intro a wx hC hsz hK
            have h0 : a.tmps.getD 44 undef = u4 := hK.2 ⟨0, .data⟩ (by simp) rfl _ rfl
            have h1 := hK.2 ⟨1, .data⟩ (by simp) rfl _ rfl
            refine vv_call 27 #[a.tmps.getD 44 undef, a.tmps.getD 45 undef] (by kernel_rfl) (by kernel_rfl) ?_
            rw [h0]
            refine Calls.mono (product_dsl (by omega) (by omega) hC.ds h1) ?_
            rintro e w' ⟨v, rfl, hb, hv⟩
            exact ⟨v, rfl, hC.below hb, (by rw [slots_put _ _ _ (by rw [hsz]; exact of_decide_eq_true (by kernel_rfl))]; exact hv), RN.of hb⟩
          · intro a wx hC hsz hK
            exact vv_val (.string s) (by kernel_rfl) (by rw [← show a.tmps.getD 0 undef = .string s from hK.1 0 (by kernel_rfl)]; kernel_rfl) hC (slots_put _ _ _ (by rw [hsz]; exact of_decide_eq_true (by kernel_rfl))) (RN.refl _)
          · intro a wx hC hsz hK
            exact vv_val (.int .i64 k) (by kernel_rfl) (by rw [← show a.tmps.getD 5 undef = .int .i64 k from hK.1 5 (by kernel_rfl)]; kernel_rfl) hC (slots_put _ _ _ (by rw [hsz]; exact of_decide_eq_true (by kernel_rfl))) (RN.refl _)
          · intro a wx hC hsz hK
            have h0 : a.tmps.getD 47 undef = .string s := hK.2 ⟨3, .data⟩ (by simp) rfl _ rfl
            have h1 : a.tmps.getD 48 undef = .int .i64 k := hK.2 ⟨4, .data⟩ (by simp) rfl _ rfl
            refine vv_v (Instr.index 9 (a.tmps.getD 47 undef) (a.tmps.getD 48 undef)) (.int .u8 (s[k].toNat : Nat)) (by kernel_rfl) rfl ?_ hC (slots_put _ _ _ (by rw [hsz]; exact of_decide_eq_true (by kernel_rfl))) (RN.refl _)
            rw [h0, h1]; exact HIX.out wx
          · intro a wx hC hsz hK
            have h0 : a.tmps.getD 49 undef = .int .u8 (s[k].toNat : Nat) := hK.2 ⟨5, .data⟩ (by simp) rfl _ rfl
            refine vv_v (do eqGuard .sub 5 (.tmp 49) (.const (.int .u8 48)) (a.tmps.getD 49 undef) (.int .u8 48); binOp .sub 5 (a.tmps.getD 49 undef) (.int .u8 48)) (.int .u8 (d : Nat)) (by kernel_rfl) rfl ?_ hC (slots_put _ _ _ (by rw [hsz]; exact of_decide_eq_true (by kernel_rfl))) (RN.refl _)
            rw [h0]
            have hg : (eqGuard .sub 5 (.tmp 49) (.const (.int .u8 48)) (.int .u8 (s[k].toNat : Nat)) (.int .u8 48)).run Tryd.prog wx = .ok () wx := by kernel_rfl
            simp only [Sem.run_bind, hg, HSB.out wx, Result.andThen_ok]
          · intro a wx hC hsz hK
            have h0 : a.tmps.getD 50 undef = .int .u8 (d : Nat) := hK.2 ⟨6, .data⟩ (by simp) rfl _ rfl
            refine vv_v (convert 5 22 (a.tmps.getD 50 undef)) (.int .u64 (d : Nat)) (by kernel_rfl) rfl ?_ hC (slots_put _ _ _ (by rw [hsz]; exact of_decide_eq_true (by kernel_rfl))) (RN.refl _)
            rw [h0]; exact HCV.out wx
          · intro a wx hC hsz hK
            have h0 : a.tmps.getD 51 undef = .int .u64 (d : Nat) := hK.2 ⟨7, .data⟩ (by simp) rfl _ rfl
            have hb : Below wx.heap.size wx (wx.alloc (.cells #[.int .u64 (d : Nat)] 22)) := (Below.refl _ _).alloc (Nat.le_refl _) _
            refine vv_v (Instr.buildSlice 38 1 #[(0, a.tmps.getD 51 undef)]) (.slice (some ⟨wx.heap.size, 0, none⟩) 1 1) (by kernel_rfl) (by kernel_rfl) (w' := wx.alloc (.cells #[.int .u64 (d : Nat)] 22)) (by rw [h0]; kernel_rfl) (hC.below hb) ?_ (RN.of hb)
            show DS 1 d _ _
            rw [slots_put _ _ _ (by rw [hsz]; exact of_decide_eq_true (by kernel_rfl))]
            exact ds_one wx d (by have := HD9.out; omega)
          · intro a wx hC hsz hK
            have h0 := hK.2 ⟨2, .data⟩ (by simp) rfl _ rfl
            have h1 := hK.2 ⟨8, .data⟩ (by simp) rfl _ rfl
            refine vv_call 26 #[a.tmps.getD 46 undef, a.tmps.getD 52 undef] (by kernel_rfl) (by kernel_rfl) ?_
            have hs := sum_dsl (w := wx) (by omega) (by omega) h0 h1
            rw [HMX.out] at hs
            refine Calls.mono hs ?_
            rintro e w' ⟨v, rfl, hb, hv⟩
            exact ⟨v, rfl, hC.below hb, (by rw [slots_put _ _ _ (by rw [hsz]; exact of_decide_eq_true (by kernel_rfl))]; exact hv), RN.of hb⟩
          · intro a wx hC hsz hK
            have h0 := hK.2 ⟨9, .data⟩ (by simp) rfl _ rfl
            exact vv_val (a.tmps.getD 53 undef) (by kernel_rfl) (by kernel_rfl) hC (by rw [slots_put _ _ _ (by rw [hsz]; exact of_decide_eq_true (by kernel_rfl))]; exact h0) (RN.refl _)
        · intro fv wx hC hf
          have h4 : DS (2 * (k + 1)) (dnum f k * 10 + d) (slots (putAll fv _ _) 4) wx := hf 10 _ rfl
          clear hf
          have HC := Lib.hid hC; clear hC
          generalize e4 : slots (putAll fv _ _) 4 = v4 at h4
          have H5 := Lib.hid h4; clear h4
          simp only [putAll, Act.put, slots, List.setIfInBounds_toArray, List.set_cons_succ, List.set_cons_zero] at e4 ⊢
          simp only [Array.getD_eq_getD_getElem?, List.getElem?_toArray, List.getElem?_cons_succ, List.getElem?_cons_zero, Option.getD_some] at e4
          rw [e4]
          clear e4
          go_wp2_with fail
          go_roundw
          case rel => exact ⟨k + 1, by omega, by go_num, Lib.hid ⟨HC.out.old, HC.out.r0, by rw [HNX.out]; exact H5.out⟩⟩
          case measure => first | (simp [intOf]; done) | (simp [intOf]; omega)
      · obtain rfl : k = s.size := by omega
        obtain ⟨hold, hr0, b, cap, dd, hsv, hD, hdl, hdv⟩ := H.out
        subst hsv
        have HR := Lib.hid (And.intro hold (And.intro hr0 (And.intro hD (And.intro hdl hdv)))); clear hold hr0 hD hdl hdv H
        obtain ⟨n2, hn2⟩ : ∃ n2, 2 * s.size = n2 := ⟨_, rfl⟩
        rw [hn2] at HR ⊢
        have hn3 : (n2 : Int) ≤ 156 := by omega
        clear hn2
        go_wp2_with fail
        go_loop [6] (fun iv => ∃ j : Nat, 16 ≤ j ∧ iv = .int .i64 j ∧ Hid (∀ t, 16 ≤ t → t < j → t < n2 → dd t = 0)) (fun iv => n2 - (intOf iv).toNat)
        case atStart => exact ⟨16, by omega, rfl, Lib.hid (fun t h1 h2 => by omega)⟩
        case round =>
          obtain ⟨j, hj, rfl, HZ⟩ := hrel
          have hj0 : (0 : Int) ≤ j := by omega
          by_cases hjn : j < n2
          · have hjn' : (j : Int) < n2 := by omega
            have cj := HR.out.2.2.1.2 j hjn
            by_cases hdz : dd j = 0
            · have e1 : (((dd j : Nat) : Int) != 0) = false := by simp [hdz]
              have HDZ := Lib.hid hdz; clear hdz
              go_wp2_with fail
              go_round
              case rel => exact ⟨j + 1, by omega, by go_num, Lib.hid (fun t h1 h2 h3 => by
                by_cases e : t = j
                · rw [e]; exact HDZ.out
                · exact HZ.out t h1 (by omega) h3)⟩
              case measure => first | (simp [intOf]; done) | (simp [intOf]; omega)
            · have e1 : (((dd j : Nat) : Int) != 0) = true := by simp [hdz]
              have hbig : ¬ dnum f s.size < 115792089237316195423570985008687907853269984665640564039457584007913129639936 := fun hlt => hdz (vd_small (n := 16) (m := n2) (by rw [HR.out.2.2.2.2, w16]; exact hlt) j hj hjn)
              have HBIG := Lib.hid hbig; clear hbig hdz
              go_wp2_with (refine wpList_store_row rfl 24 _ _ rfl w.heap.size #[.int .u64 0, .int .u64 0, .int .u64 0, .int .u64 0] rfl rfl 24 #[.int .u64 0, .int .u64 0, .int .u64 0, .int .u64 0] HR.out.2.1 infoWord rfl (by simp [Value.oneCell']) ?_)
              (try simp only [Exit.inBlock, Exit.then])
              exact bodyPost_ret (v := .tuple #[.agg #[.int .u64 0, .int .u64 0, .int .u64 0, .int .u64 0], .int .i64 2]) (results_ct (p := 2) (q := 3) rfl _ _ w.heap.size _ _ rfl rfl (setRow_heap _ _ _ _ _ _ HR.out.2.1) infoWord) rfl ⟨by rw [if_neg HBIG.out], below_setRow HR.out.1 (Nat.le_refl _) _⟩
          · have hjn' : ¬ (j : Int) < n2 := by omega
            have hfit : dnum f s.size < 115792089237316195423570985008687907853269984665640564039457584007913129639936 := by
              have h := vd_full (d := dd) (min 16 n2) n2 (fun t h1 h2 => HZ.out t (by omega) (by omega) h2) (by omega)
              rw [← HR.out.2.2.2.2, h]
              refine Nat.lt_of_lt_of_le (vd_lt (fun t ht => HR.out.2.2.2.1 t (by omega))) ?_
              have := Nat.pow_le_pow_right (show 0 < 65536 by omega) (show min 16 n2 ≤ 16 by omega)
              rwa [w16] at this
            have HFIT := Lib.hid hfit; clear hfit
            have HWD : Hid (Calls Tryd.prog 28 #[.slice (some ⟨b, 0, none⟩) n2 cap] wr fun e w' => e = .returned (.agg (pw (dnum f s.size))) ∧ Below wr.heap.size wr w') := Lib.hid (by
              have h := word_any b cap n2 dd (by omega) HR.out.2.2.2.1 wr HR.out.2.2.1
              rw [HR.out.2.2.2.2] at h
              exact h)
            go_wp2_with fail
            refine HWD.out.mono ?_
            rintro e w1 ⟨rfl, hb⟩
            have h1 := (hb.block _ (Array.getElem?_eq_some_iff.1 HR.out.2.1).1).trans HR.out.2.1
            have H1 := Lib.hid (And.intro h1 (HR.out.1.trans (hb.mono HR.out.1.size))); clear h1 hb
            go_wp2_with (refine wpList_store_row rfl 24 _ _ rfl w.heap.size (pw (dnum f s.size)) rfl rfl 24 #[.int .u64 0, .int .u64 0, .int .u64 0, .int .u64 0] H1.out.1 infoWord rfl (pw_one _) ?_)
            (try simp only [Exit.inBlock, Exit.then])
            exact bodyPost_ret (v := .tuple #[.agg (pw (dnum f s.size)), .int .i64 0]) (results_ct (p := 2) (q := 3) rfl _ _ w.heap.size _ _ rfl rfl (setRow_heap _ _ _ _ _ _ H1.out.1) infoWord) rfl ⟨by rw [if_pos HFIT.out], below_setRow H1.out.2 (Nat.le_refl _) _⟩
end Go.Proofs.YtmhgnlngcjckbaaDoor
namespace Go.Proofs.YtmhgnlngcjckbaaDoor
open Go.RowKit

set_option maxRecDepth 100000 in
set_option maxHeartbeats 4000000 in
theorem rparse_bad (s : ByteArray) (f : Nat → Nat) (N : Nat) (w : World) (h0 : 0 < s.size) (hn : s.size ≤ 78) (hlead : 1 < s.size → ¬ ((s[0]'h0).toNat : Int) = 48) (hN : N < s.size) (hf : ∀ j (hj : j < s.size), j < N → s[j].toNat = f j + 48 ∧ f j ≤ 9) (hbad : s[N].toNat < 48 ∨ 57 < s[N].toNat) :
    Calls Tryd.prog 13 #[.string s] w fun e w' => e = .returned (.tuple #[.agg #[.int .u64 0, .int .u64 0, .int .u64 0, .int .u64 0], .int .i64 4]) ∧ Below w.heap.size w w' := by
  have e3 : (s.size : Int) ≤ 78 := by omega
  have e0 : ¬ (s.size : Int) = 0 := by omega
  have e4 : ¬ s = ByteArray.empty := fun h => by rw [h] at h0; exact absurd h0 (by decide)
  have e5 : ((s.size : Int) == 0) = false := by rw [beq_eq_false_iff_ne]; exact e0
  have HF := Lib.hid hf; clear hf
  have HNB := Lib.hid (And.intro hN hbad); clear hbad
  by_cases h1 : 1 < s.size
  · have hz := hlead h1
    have e1 : (1 : Int) < s.size := by omega
    have e6 : (((s[0]'h0).toNat : Int) == 48) = false := by rw [beq_eq_false_iff_ne]; exact hz
    clear hlead
    go_enter Tryd.func13, Tryd.ntmps13
    go_wp2_with fail
    go_loopw [4, 5] (fun v iv wr => ∃ k : Nat, k ≤ N ∧ iv = .int .i64 k ∧ Hid (CQ w (2 * k) (dnum f k) v wr)) (fun _ iv _ => s.size - (intOf iv).toNat)
    case atStart => exact ⟨0, by omega, rfl, Lib.hid ⟨by go_grown, (heap2 _ _ _).1, ⟨_, _, fun _ => 0, rfl, ⟨by simp, fun j hj => by omega⟩, fun j hj => by omega, rfl⟩⟩⟩
    case round =>
      obtain ⟨k, hk, rfl, H⟩ := hrel
      have hk0 : (0 : Int) ≤ k := by omega
      have hk1 : (k : Int) ≤ 78 := by have := HNB.out.1; omega
      by_cases hlt : k < N
      · have hks : k < s.size := by have := HNB.out.1; omega
        have hki : (k : Int) < s.size := by omega
        obtain ⟨d1, d2⟩ := HF.out k hks hlt
        obtain ⟨d, hd⟩ : ∃ d, f k = d := ⟨_, rfl⟩
        rw [hd] at d1 d2
        have hb1 : ¬ ((s[k].toNat : Nat) : Int) < 48 := by omega
        have hb2 : ¬ (57 : Int) < ((s[k].toNat : Nat) : Int) := by omega
        have hb3 : ((s[k].toNat : Nat) : Int) - 48 = (d : Int) := by omega
        have hw8 : IntKind.u8.wrap (d : Int) = (d : Int) := by rw [IntKind.wrap_u8]; omega
        have hw64 : IntKind.u64.wrap (d : Int) = (d : Int) := by rw [IntKind.wrap_u64]; omega
        have hnx : dnum f (k + 1) = dnum f k * 10 + d := by rw [dnum, hd]
        have HNX := Lib.hid hnx; clear hnx hd d1
        have HD9 := Lib.hid d2; clear d2
        have hix : ∀ w, (Instr.index 9 (.string s) (.int .i64 k)).run Tryd.prog w = .ok (.int .u8 (s[k].toNat : Nat)) w := fun w => by go_simp
        have hsb : ∀ w, (binOp BinOp.sub 5 (.int .u8 (s[k].toNat : Nat)) (.int .u8 48)).run Tryd.prog w = .ok (.int .u8 (d : Nat)) w := fun w => by go_simp
        have hcv : ∀ w, (convert 5 22 (.int .u8 (d : Nat))).run Tryd.prog w = .ok (.int .u64 (d : Nat)) w := fun w => by go_simp
        have hmx : max (2 * k + 1) 1 + 1 = 2 * (k + 1) := by omega
        have HIX := Lib.hid hix; clear hix
        have HSB := Lib.hid hsb; clear hsb
        have HCV := Lib.hid hcv; clear hcv
        have HMX := Lib.hid hmx; clear hmx
        go_wp2_with fail
        refine region_tie3 (CQ w (2 * k) (dnum f k) u4) (fun i sl wx => match i with | 0 => sl 44 = u4 | 1 => DS 1 10 (sl 45) wx | 2 => DS (2 * k + 1) (dnum f k * 10) (sl 46) wx | 3 => sl 47 = .string s | 4 => sl 48 = .int .i64 k | 5 => sl 49 = .int .u8 (s[k].toNat : Nat) | 6 => sl 50 = .int .u8 (d : Nat) | 7 => sl 51 = .int .u64 (d : Nat) | 8 => DS 1 d (sl 52) wx | 9 => DS (2 * (k + 1)) (dnum f k * 10 + d) (sl 53) wx | 10 => DS (2 * (k + 1)) (dnum f k * 10 + d) (sl 4) wx | _ => True) RN (fun i => match i with | 0 => [44] | 1 => [45] | 2 => [46] | 3 => [47] | 4 => [48] | 5 => [49] | 6 => [50] | 7 => [51] | 8 => [52] | 9 => [53] | 10 => [4] | _ => []) (fun i => i) (by kernel_rfl) (by kernel_rfl) H.out.drew ?_ ?_ ?_ ?_
        · intro i sl sl' wx he hp
          match i, he, hp with
          | 0, he, hp => exact (he 44 (by simp)).symm.trans hp
          | 1, he, hp => have h := he 45 (by simp); rw [h] at hp; exact hp
          | 2, he, hp => have h := he 46 (by simp); rw [h] at hp; exact hp
          | 3, he, hp => exact (he 47 (by simp)).symm.trans hp
          | 4, he, hp => exact (he 48 (by simp)).symm.trans hp
          | 5, he, hp => exact (he 49 (by simp)).symm.trans hp
          | 6, he, hp => exact (he 50 (by simp)).symm.trans hp
          | 7, he, hp => exact (he 51 (by simp)).symm.trans hp
          | 8, he, hp => have h := he 52 (by simp); rw [h] at hp; exact hp
          | 9, he, hp => have h := he 53 (by simp); rw [h] at hp; exact hp
          | 10, he, hp => have h := he 4 (by simp); rw [h] at hp; exact hp
          | _ + 11, _, _ => trivial
        · intro i sl wa wb hR hp
          match i, hp with
          | 0, hp => exact hp
          | 1, hp => exact hp.keep hR
          | 2, hp => exact hp.keep hR
          | 3, hp => exact hp
          | 4, hp => exact hp
          | 5, hp => exact hp
          | 6, hp => exact hp
          | 7, hp => exact hp
          | 8, hp => exact hp.keep hR
          | 9, hp => exact hp.keep hR
          | 10, hp => exact hp.keep hR
          | _ + 11, _ => trivial
        · refine ⟨?_, ?_, ?_, ?_, ?_, ?_, ?_, ?_, ?_, ?_, ?_, trivial⟩
          · intro a wx hC hsz hK
            exact vv_val u4 (by kernel_rfl) (by rw [← show a.tmps.getD 4 undef = u4 from hK.1 4 (by kernel_rfl)]; kernel_rfl) hC (slots_put _ _ _ (by rw [hsz]; exact of_decide_eq_true (by kernel_rfl))) (RN.refl _)
          · intro a wx hC hsz hK
            have hb : Below wx.heap.size wx (wx.alloc (.cells #[.int .u64 (10 : Nat)] 22)) := (Below.refl _ _).alloc (Nat.le_refl _) _
            refine vv_v (Instr.buildSlice 38 1 #[(0, .int .u64 10)]) (.slice (some ⟨wx.heap.size, 0, none⟩) 1 1) (by kernel_rfl) (by kernel_rfl) (w' := wx.alloc (.cells #[.int .u64 (10 : Nat)] 22)) (by kernel_rfl) (hC.below hb) ?_ (RN.of hb)
            show DS 1 10 _ _
            rw [slots_put _ _ _ (by rw [hsz]; exact of_decide_eq_true (by kernel_rfl))]
            exact ds_one wx 10 (by omega)
          · intro a wx hC hsz hK
            have h0 : a.tmps.getD 44 undef = u4 := hK.2 ⟨0, .data⟩ (by simp) rfl _ rfl
            have h1 := hK.2 ⟨1, .data⟩ (by simp) rfl _ rfl
            refine vv_call 27 #[a.tmps.getD 44 undef, a.tmps.getD 45 undef] (by kernel_rfl) (by kernel_rfl) ?_
            rw [h0]
            refine Calls.mono (product_dsl (by omega) (by omega) hC.ds h1) ?_
            rintro e w' ⟨v, rfl, hb, hv⟩
            exact ⟨v, rfl, hC.below hb, (by rw [slots_put _ _ _ (by rw [hsz]; exact of_decide_eq_true (by kernel_rfl))]; exact hv), RN.of hb⟩
          · intro a wx hC hsz hK
            exact vv_val (.string s) (by kernel_rfl) (by rw [← show a.tmps.getD 0 undef = .string s from hK.1 0 (by kernel_rfl)]; kernel_rfl) hC (slots_put _ _ _ (by rw [hsz]; exact of_decide_eq_true (by kernel_rfl))) (RN.refl _)
          · intro a wx hC hsz hK
            exact vv_val (.int .i64 k) (by kernel_rfl) (by rw [← show a.tmps.getD 5 undef = .int .i64 k from hK.1 5 (by kernel_rfl)]; kernel_rfl) hC (slots_put _ _ _ (by rw [hsz]; exact of_decide_eq_true (by kernel_rfl))) (RN.refl _)
          · intro a wx hC hsz hK
            have h0 : a.tmps.getD 47 undef = .string s := hK.2 ⟨3, .data⟩ (by simp) rfl _ rfl
            have h1 : a.tmps.getD 48 undef = .int .i64 k := hK.2 ⟨4, .data⟩ (by simp) rfl _ rfl
            refine vv_v (Instr.index 9 (a.tmps.getD 47 undef) (a.tmps.getD 48 undef)) (.int .u8 (s[k].toNat : Nat)) (by kernel_rfl) rfl ?_ hC (slots_put _ _ _ (by rw [hsz]; exact of_decide_eq_true (by kernel_rfl))) (RN.refl _)
            rw [h0, h1]; exact HIX.out wx
          · intro a wx hC hsz hK
            have h0 : a.tmps.getD 49 undef = .int .u8 (s[k].toNat : Nat) := hK.2 ⟨5, .data⟩ (by simp) rfl _ rfl
            refine vv_v (do eqGuard .sub 5 (.tmp 49) (.const (.int .u8 48)) (a.tmps.getD 49 undef) (.int .u8 48); binOp .sub 5 (a.tmps.getD 49 undef) (.int .u8 48)) (.int .u8 (d : Nat)) (by kernel_rfl) rfl ?_ hC (slots_put _ _ _ (by rw [hsz]; exact of_decide_eq_true (by kernel_rfl))) (RN.refl _)
            rw [h0]
            have hg : (eqGuard .sub 5 (.tmp 49) (.const (.int .u8 48)) (.int .u8 (s[k].toNat : Nat)) (.int .u8 48)).run Tryd.prog wx = .ok () wx := by kernel_rfl
            simp only [Sem.run_bind, hg, HSB.out wx, Result.andThen_ok]
          · intro a wx hC hsz hK
            have h0 : a.tmps.getD 50 undef = .int .u8 (d : Nat) := hK.2 ⟨6, .data⟩ (by simp) rfl _ rfl
            refine vv_v (convert 5 22 (a.tmps.getD 50 undef)) (.int .u64 (d : Nat)) (by kernel_rfl) rfl ?_ hC (slots_put _ _ _ (by rw [hsz]; exact of_decide_eq_true (by kernel_rfl))) (RN.refl _)
            rw [h0]; exact HCV.out wx
          · intro a wx hC hsz hK
            have h0 : a.tmps.getD 51 undef = .int .u64 (d : Nat) := hK.2 ⟨7, .data⟩ (by simp) rfl _ rfl
            have hb : Below wx.heap.size wx (wx.alloc (.cells #[.int .u64 (d : Nat)] 22)) := (Below.refl _ _).alloc (Nat.le_refl _) _
            refine vv_v (Instr.buildSlice 38 1 #[(0, a.tmps.getD 51 undef)]) (.slice (some ⟨wx.heap.size, 0, none⟩) 1 1) (by kernel_rfl) (by kernel_rfl) (w' := wx.alloc (.cells #[.int .u64 (d : Nat)] 22)) (by rw [h0]; kernel_rfl) (hC.below hb) ?_ (RN.of hb)
            show DS 1 d _ _
            rw [slots_put _ _ _ (by rw [hsz]; exact of_decide_eq_true (by kernel_rfl))]
            exact ds_one wx d (by have := HD9.out; omega)
          · intro a wx hC hsz hK
            have h0 := hK.2 ⟨2, .data⟩ (by simp) rfl _ rfl
            have h1 := hK.2 ⟨8, .data⟩ (by simp) rfl _ rfl
            refine vv_call 26 #[a.tmps.getD 46 undef, a.tmps.getD 52 undef] (by kernel_rfl) (by kernel_rfl) ?_
            have hs := sum_dsl (w := wx) (by omega) (by omega) h0 h1
            rw [HMX.out] at hs
            refine Calls.mono hs ?_
            rintro e w' ⟨v, rfl, hb, hv⟩
            exact ⟨v, rfl, hC.below hb, (by rw [slots_put _ _ _ (by rw [hsz]; exact of_decide_eq_true (by kernel_rfl))]; exact hv), RN.of hb⟩
          · intro a wx hC hsz hK
            have h0 := hK.2 ⟨9, .data⟩ (by simp) rfl _ rfl
            exact vv_val (a.tmps.getD 53 undef) (by kernel_rfl) (by kernel_rfl) hC (by rw [slots_put _ _ _ (by rw [hsz]; exact of_decide_eq_true (by kernel_rfl))]; exact h0) (RN.refl _)
        · intro fv wx hC hf
          have h4 : DS (2 * (k + 1)) (dnum f k * 10 + d) (slots (putAll fv _ _) 4) wx := hf 10 _ rfl
          clear hf
          have HC := Lib.hid hC; clear hC
          generalize e4 : slots (putAll fv _ _) 4 = v4 at h4
          have H5 := Lib.hid h4; clear h4
          simp only [putAll, Act.put, slots, List.setIfInBounds_toArray, List.set_cons_succ, List.set_cons_zero] at e4 ⊢
          simp only [Array.getD_eq_getD_getElem?, List.getElem?_toArray, List.getElem?_cons_succ, List.getElem?_cons_zero, Option.getD_some] at e4
          rw [e4]
          clear e4
          go_wp2_with fail
          go_roundw
          case rel => exact ⟨k + 1, by omega, by go_num, Lib.hid ⟨HC.out.old, HC.out.r0, by rw [HNX.out]; exact H5.out⟩⟩
          case measure => first | (simp [intOf]; done) | (simp [intOf]; omega)
      · obtain rfl : k = N := by omega
        have hks := HNB.out.1
        have hki : (k : Int) < s.size := by omega
        have hr0 := Lib.hid (And.intro H.out.old H.out.r0)
        by_cases hlow : s[k].toNat < 48
        · have hb1 : ((s[k].toNat : Nat) : Int) < 48 := by omega
          clear hlow hk HF HNB H
          go_wp2_with (refine wpList_store_row rfl 24 _ _ rfl w.heap.size #[.int .u64 0, .int .u64 0, .int .u64 0, .int .u64 0] rfl rfl 24 #[.int .u64 0, .int .u64 0, .int .u64 0, .int .u64 0] (by exact hr0.out.2) infoWord rfl (pw_one 0) ?_)
          (try simp only [Exit.inBlock, Exit.then])
          exact bodyPost_ret (v := .tuple #[.agg #[.int .u64 0, .int .u64 0, .int .u64 0, .int .u64 0], .int .i64 4]) (results_ct (p := 2) (q := 3) rfl _ _ w.heap.size _ _ rfl rfl (setRow_heap _ _ _ _ _ _ hr0.out.2) infoWord) rfl ⟨rfl, below_setRow hr0.out.1 (Nat.le_refl _) _⟩
        · have hb1 : ¬ ((s[k].toNat : Nat) : Int) < 48 := by omega
          have hb2 : (57 : Int) < ((s[k].toNat : Nat) : Int) := by have := HNB.out.2; omega
          clear hlow hk HF HNB H
          go_wp2_with (refine wpList_store_row rfl 24 _ _ rfl w.heap.size #[.int .u64 0, .int .u64 0, .int .u64 0, .int .u64 0] rfl rfl 24 #[.int .u64 0, .int .u64 0, .int .u64 0, .int .u64 0] (by exact hr0.out.2) infoWord rfl (pw_one 0) ?_)
          (try simp only [Exit.inBlock, Exit.then])
          exact bodyPost_ret (v := .tuple #[.agg #[.int .u64 0, .int .u64 0, .int .u64 0, .int .u64 0], .int .i64 4]) (results_ct (p := 2) (q := 3) rfl _ _ w.heap.size _ _ rfl rfl (setRow_heap _ _ _ _ _ _ hr0.out.2) infoWord) rfl ⟨rfl, below_setRow hr0.out.1 (Nat.le_refl _) _⟩
  · have e1 : ¬ (1 : Int) < s.size := by omega
    clear hlead
    go_enter Tryd.func13, Tryd.ntmps13
    go_wp2_with fail
    go_loopw [4, 5] (fun v iv wr => ∃ k : Nat, k ≤ N ∧ iv = .int .i64 k ∧ Hid (CQ w (2 * k) (dnum f k) v wr)) (fun _ iv _ => s.size - (intOf iv).toNat)
    case atStart => exact ⟨0, by omega, rfl, Lib.hid ⟨by go_grown, (heap2 _ _ _).1, ⟨_, _, fun _ => 0, rfl, ⟨by simp, fun j hj => by omega⟩, fun j hj => by omega, rfl⟩⟩⟩
    case round =>
      obtain ⟨k, hk, rfl, H⟩ := hrel
      have hk0 : (0 : Int) ≤ k := by omega
      have hk1 : (k : Int) ≤ 78 := by have := HNB.out.1; omega
      by_cases hlt : k < N
      · have hks : k < s.size := by have := HNB.out.1; omega
        have hki : (k : Int) < s.size := by omega
        obtain ⟨d1, d2⟩ := HF.out k hks hlt
        obtain ⟨d, hd⟩ : ∃ d, f k = d := ⟨_, rfl⟩
        rw [hd] at d1 d2
        have hb1 : ¬ ((s[k].toNat : Nat) : Int) < 48 := by omega
        have hb2 : ¬ (57 : Int) < ((s[k].toNat : Nat) : Int) := by omega
        have hb3 : ((s[k].toNat : Nat) : Int) - 48 = (d : Int) := by omega
        have hw8 : IntKind.u8.wrap (d : Int) = (d : Int) := by rw [IntKind.wrap_u8]; omega
        have hw64 : IntKind.u64.wrap (d : Int) = (d : Int) := by rw [IntKind.wrap_u64]; omega
        have hnx : dnum f (k + 1) = dnum f k * 10 + d := by rw [dnum, hd]
        have HNX := Lib.hid hnx; clear hnx hd d1
        have HD9 := Lib.hid d2; clear d2
        have hix : ∀ w, (Instr.index 9 (.string s) (.int .i64 k)).run Tryd.prog w = .ok (.int .u8 (s[k].toNat : Nat)) w := fun w => by go_simp
        have hsb : ∀ w, (binOp BinOp.sub 5 (.int .u8 (s[k].toNat : Nat)) (.int .u8 48)).run Tryd.prog w = .ok (.int .u8 (d : Nat)) w := fun w => by go_simp
        have hcv : ∀ w, (convert 5 22 (.int .u8 (d : Nat))).run Tryd.prog w = .ok (.int .u64 (d : Nat)) w := fun w => by go_simp
        have hmx : max (2 * k + 1) 1 + 1 = 2 * (k + 1) := by omega
        have HIX := Lib.hid hix; clear hix
        have HSB := Lib.hid hsb; clear hsb
        have HCV := Lib.hid hcv; clear hcv
        have HMX := Lib.hid hmx; clear hmx
        go_wp2_with fail
        refine region_tie3 (CQ w (2 * k) (dnum f k) u4) (fun i sl wx => match i with | 0 => sl 44 = u4 | 1 => DS 1 10 (sl 45) wx | 2 => DS (2 * k + 1) (dnum f k * 10) (sl 46) wx | 3 => sl 47 = .string s | 4 => sl 48 = .int .i64 k | 5 => sl 49 = .int .u8 (s[k].toNat : Nat) | 6 => sl 50 = .int .u8 (d : Nat) | 7 => sl 51 = .int .u64 (d : Nat) | 8 => DS 1 d (sl 52) wx | 9 => DS (2 * (k + 1)) (dnum f k * 10 + d) (sl 53) wx | 10 => DS (2 * (k + 1)) (dnum f k * 10 + d) (sl 4) wx | _ => True) RN (fun i => match i with | 0 => [44] | 1 => [45] | 2 => [46] | 3 => [47] | 4 => [48] | 5 => [49] | 6 => [50] | 7 => [51] | 8 => [52] | 9 => [53] | 10 => [4] | _ => []) (fun i => i) (by kernel_rfl) (by kernel_rfl) H.out.drew ?_ ?_ ?_ ?_
        · intro i sl sl' wx he hp
          match i, he, hp with
          | 0, he, hp => exact (he 44 (by simp)).symm.trans hp
          | 1, he, hp => have h := he 45 (by simp); rw [h] at hp; exact hp
          | 2, he, hp => have h := he 46 (by simp); rw [h] at hp; exact hp
          | 3, he, hp => exact (he 47 (by simp)).symm.trans hp
          | 4, he, hp => exact (he 48 (by simp)).symm.trans hp
          | 5, he, hp => exact (he 49 (by simp)).symm.trans hp
          | 6, he, hp => exact (he 50 (by simp)).symm.trans hp
          | 7, he, hp => exact (he 51 (by simp)).symm.trans hp
          | 8, he, hp => have h := he 52 (by simp); rw [h] at hp; exact hp
          | 9, he, hp => have h := he 53 (by simp); rw [h] at hp; exact hp
          | 10, he, hp => have h := he 4 (by simp); rw [h] at hp; exact hp
          | _ + 11, _, _ => trivial
        · intro i sl wa wb hR hp
          match i, hp with
          | 0, hp => exact hp
          | 1, hp => exact hp.keep hR
          | 2, hp => exact hp.keep hR
          | 3, hp => exact hp
          | 4, hp => exact hp
          | 5, hp => exact hp
          | 6, hp => exact hp
          | 7, hp => exact hp
          | 8, hp => exact hp.keep hR
          | 9, hp => exact hp.keep hR
          | 10, hp => exact hp.keep hR
          | _ + 11, _ => trivial
        · refine ⟨?_, ?_, ?_, ?_, ?_, ?_, ?_, ?_, ?_, ?_, ?_, trivial⟩
          · intro a wx hC hsz hK
            exact vv_val u4 (by kernel_rfl) (by rw [← show a.tmps.getD 4 undef = u4 from hK.1 4 (by kernel_rfl)]; kernel_rfl) hC (slots_put _ _ _ (by rw [hsz]; exact of_decide_eq_true (by kernel_rfl))) (RN.refl _)
          · intro a wx hC hsz hK
            have hb : Below wx.heap.size wx (wx.alloc (.cells #[.int .u64 (10 : Nat)] 22)) := (Below.refl _ _).alloc (Nat.le_refl _) _
            refine vv_v (Instr.buildSlice 38 1 #[(0, .int .u64 10)]) (.slice (some ⟨wx.heap.size, 0, none⟩) 1 1) (by kernel_rfl) (by kernel_rfl) (w' := wx.alloc (.cells #[.int .u64 (10 : Nat)] 22)) (by kernel_rfl) (hC.below hb) ?_ (RN.of hb)
            show DS 1 10 _ _
            rw [slots_put _ _ _ (by rw [hsz]; exact of_decide_eq_true (by kernel_rfl))]
            exact ds_one wx 10 (by omega)
          · intro a wx hC hsz hK
            have h0 : a.tmps.getD 44 undef = u4 := hK.2 ⟨0, .data⟩ (by simp) rfl _ rfl
            have h1 := hK.2 ⟨1, .data⟩ (by simp) rfl _ rfl
            refine vv_call 27 #[a.tmps.getD 44 undef, a.tmps.getD 45 undef] (by kernel_rfl) (by kernel_rfl) ?_
            rw [h0]
            refine Calls.mono (product_dsl (by omega) (by omega) hC.ds h1) ?_
            rintro e w' ⟨v, rfl, hb, hv⟩
            exact ⟨v, rfl, hC.below hb, (by rw [slots_put _ _ _ (by rw [hsz]; exact of_decide_eq_true (by kernel_rfl))]; exact hv), RN.of hb⟩
          · intro a wx hC hsz hK
            exact vv_val (.string s) (by kernel_rfl) (by rw [← show a.tmps.getD 0 undef = .string s from hK.1 0 (by kernel_rfl)]; kernel_rfl) hC (slots_put _ _ _ (by rw [hsz]; exact of_decide_eq_true (by kernel_rfl))) (RN.refl _)
          · intro a wx hC hsz hK
            exact vv_val (.int .i64 k) (by kernel_rfl) (by rw [← show a.tmps.getD 5 undef = .int .i64 k from hK.1 5 (by kernel_rfl)]; kernel_rfl) hC (slots_put _ _ _ (by rw [hsz]; exact of_decide_eq_true (by kernel_rfl))) (RN.refl _)
          · intro a wx hC hsz hK
            have h0 : a.tmps.getD 47 undef = .string s := hK.2 ⟨3, .data⟩ (by simp) rfl _ rfl
            have h1 : a.tmps.getD 48 undef = .int .i64 k := hK.2 ⟨4, .data⟩ (by simp) rfl _ rfl
            refine vv_v (Instr.index 9 (a.tmps.getD 47 undef) (a.tmps.getD 48 undef)) (.int .u8 (s[k].toNat : Nat)) (by kernel_rfl) rfl ?_ hC (slots_put _ _ _ (by rw [hsz]; exact of_decide_eq_true (by kernel_rfl))) (RN.refl _)
            rw [h0, h1]; exact HIX.out wx
          · intro a wx hC hsz hK
            have h0 : a.tmps.getD 49 undef = .int .u8 (s[k].toNat : Nat) := hK.2 ⟨5, .data⟩ (by simp) rfl _ rfl
            refine vv_v (do eqGuard .sub 5 (.tmp 49) (.const (.int .u8 48)) (a.tmps.getD 49 undef) (.int .u8 48); binOp .sub 5 (a.tmps.getD 49 undef) (.int .u8 48)) (.int .u8 (d : Nat)) (by kernel_rfl) rfl ?_ hC (slots_put _ _ _ (by rw [hsz]; exact of_decide_eq_true (by kernel_rfl))) (RN.refl _)
            rw [h0]
            have hg : (eqGuard .sub 5 (.tmp 49) (.const (.int .u8 48)) (.int .u8 (s[k].toNat : Nat)) (.int .u8 48)).run Tryd.prog wx = .ok () wx := by kernel_rfl
            simp only [Sem.run_bind, hg, HSB.out wx, Result.andThen_ok]
          · intro a wx hC hsz hK
            have h0 : a.tmps.getD 50 undef = .int .u8 (d : Nat) := hK.2 ⟨6, .data⟩ (by simp) rfl _ rfl
            refine vv_v (convert 5 22 (a.tmps.getD 50 undef)) (.int .u64 (d : Nat)) (by kernel_rfl) rfl ?_ hC (slots_put _ _ _ (by rw [hsz]; exact of_decide_eq_true (by kernel_rfl))) (RN.refl _)
            rw [h0]; exact HCV.out wx
          · intro a wx hC hsz hK
            have h0 : a.tmps.getD 51 undef = .int .u64 (d : Nat) := hK.2 ⟨7, .data⟩ (by simp) rfl _ rfl
            have hb : Below wx.heap.size wx (wx.alloc (.cells #[.int .u64 (d : Nat)] 22)) := (Below.refl _ _).alloc (Nat.le_refl _) _
            refine vv_v (Instr.buildSlice 38 1 #[(0, a.tmps.getD 51 undef)]) (.slice (some ⟨wx.heap.size, 0, none⟩) 1 1) (by kernel_rfl) (by kernel_rfl) (w' := wx.alloc (.cells #[.int .u64 (d : Nat)] 22)) (by rw [h0]; kernel_rfl) (hC.below hb) ?_ (RN.of hb)
            show DS 1 d _ _
            rw [slots_put _ _ _ (by rw [hsz]; exact of_decide_eq_true (by kernel_rfl))]
            exact ds_one wx d (by have := HD9.out; omega)
          · intro a wx hC hsz hK
            have h0 := hK.2 ⟨2, .data⟩ (by simp) rfl _ rfl
            have h1 := hK.2 ⟨8, .data⟩ (by simp) rfl _ rfl
            refine vv_call 26 #[a.tmps.getD 46 undef, a.tmps.getD 52 undef] (by kernel_rfl) (by kernel_rfl) ?_
            have hs := sum_dsl (w := wx) (by omega) (by omega) h0 h1
            rw [HMX.out] at hs
            refine Calls.mono hs ?_
            rintro e w' ⟨v, rfl, hb, hv⟩
            exact ⟨v, rfl, hC.below hb, (by rw [slots_put _ _ _ (by rw [hsz]; exact of_decide_eq_true (by kernel_rfl))]; exact hv), RN.of hb⟩
          · intro a wx hC hsz hK
            have h0 := hK.2 ⟨9, .data⟩ (by simp) rfl _ rfl
            exact vv_val (a.tmps.getD 53 undef) (by kernel_rfl) (by kernel_rfl) hC (by rw [slots_put _ _ _ (by rw [hsz]; exact of_decide_eq_true (by kernel_rfl))]; exact h0) (RN.refl _)
        · intro fv wx hC hf
          have h4 : DS (2 * (k + 1)) (dnum f k * 10 + d) (slots (putAll fv _ _) 4) wx := hf 10 _ rfl
          clear hf
          have HC := Lib.hid hC; clear hC
          generalize e4 : slots (putAll fv _ _) 4 = v4 at h4
          have H5 := Lib.hid h4; clear h4
          simp only [putAll, Act.put, slots, List.setIfInBounds_toArray, List.set_cons_succ, List.set_cons_zero] at e4 ⊢
          simp only [Array.getD_eq_getD_getElem?, List.getElem?_toArray, List.getElem?_cons_succ, List.getElem?_cons_zero, Option.getD_some] at e4
          rw [e4]
          clear e4
          go_wp2_with fail
          go_roundw
          case rel => exact ⟨k + 1, by omega, by go_num, Lib.hid ⟨HC.out.old, HC.out.r0, by rw [HNX.out]; exact H5.out⟩⟩
          case measure => first | (simp [intOf]; done) | (simp [intOf]; omega)
      · obtain rfl : k = N := by omega
        have hks := HNB.out.1
        have hki : (k : Int) < s.size := by omega
        have hr0 := Lib.hid (And.intro H.out.old H.out.r0)
        by_cases hlow : s[k].toNat < 48
        · have hb1 : ((s[k].toNat : Nat) : Int) < 48 := by omega
          clear hlow hk HF HNB H
          go_wp2_with (refine wpList_store_row rfl 24 _ _ rfl w.heap.size #[.int .u64 0, .int .u64 0, .int .u64 0, .int .u64 0] rfl rfl 24 #[.int .u64 0, .int .u64 0, .int .u64 0, .int .u64 0] (by exact hr0.out.2) infoWord rfl (pw_one 0) ?_)
          (try simp only [Exit.inBlock, Exit.then])
          exact bodyPost_ret (v := .tuple #[.agg #[.int .u64 0, .int .u64 0, .int .u64 0, .int .u64 0], .int .i64 4]) (results_ct (p := 2) (q := 3) rfl _ _ w.heap.size _ _ rfl rfl (setRow_heap _ _ _ _ _ _ hr0.out.2) infoWord) rfl ⟨rfl, below_setRow hr0.out.1 (Nat.le_refl _) _⟩
        · have hb1 : ¬ ((s[k].toNat : Nat) : Int) < 48 := by omega
          have hb2 : (57 : Int) < ((s[k].toNat : Nat) : Int) := by have := HNB.out.2; omega
          clear hlow hk HF HNB H
          go_wp2_with (refine wpList_store_row rfl 24 _ _ rfl w.heap.size #[.int .u64 0, .int .u64 0, .int .u64 0, .int .u64 0] rfl rfl 24 #[.int .u64 0, .int .u64 0, .int .u64 0, .int .u64 0] (by exact hr0.out.2) infoWord rfl (pw_one 0) ?_)
          (try simp only [Exit.inBlock, Exit.then])
          exact bodyPost_ret (v := .tuple #[.agg #[.int .u64 0, .int .u64 0, .int .u64 0, .int .u64 0], .int .i64 4]) (results_ct (p := 2) (q := 3) rfl _ _ w.heap.size _ _ rfl rfl (setRow_heap _ _ _ _ _ _ hr0.out.2) infoWord) rfl ⟨rfl, below_setRow hr0.out.1 (Nat.le_refl _) _⟩

set_option maxRecDepth 100000 in
/-- .. empty, too long, or with a nought ahead. -/
theorem rparse_form (s : ByteArray) (w : World) (hs : s.size ≤ maxLen) (h : s.size = 0 ∨ 78 < s.size ∨ (1 < s.size ∧ ∀ h0 : 0 < s.size, ((s[0]'h0).toNat : Int) = 48)) :
    Calls Tryd.prog 13 #[.string s] w fun e w' => e = .returned (.tuple #[.agg #[.int .u64 0, .int .u64 0, .int .u64 0, .int .u64 0], .int .i64 4]) ∧ Below w.heap.size w w' := by
  unfold maxLen at hs
  have hr0 := Lib.hid (heap_alloc_new w (.cells #[.int .u64 0, .int .u64 0, .int .u64 0, .int .u64 0] 24))
  rcases h with h | h | ⟨h, hz⟩
  · have e0 : (s.size : Int) = 0 := by omega
    have hq : s = ByteArray.empty := by
      apply ByteArray.ext
      exact Array.eq_empty_of_size_eq_zero h
    subst hq
    clear h e0 hs
    go_enter Tryd.func13, Tryd.ntmps13
    go_wp2_with (refine wpList_store_row rfl 24 _ _ rfl w.heap.size #[.int .u64 0, .int .u64 0, .int .u64 0, .int .u64 0] rfl rfl 24 #[.int .u64 0, .int .u64 0, .int .u64 0, .int .u64 0] (by exact hr0.out) infoWord rfl (pw_one 0) ?_)
    (try simp only [Exit.inBlock, Exit.then])
    exact bodyPost_ret (v := .tuple #[.agg #[.int .u64 0, .int .u64 0, .int .u64 0, .int .u64 0], .int .i64 4]) (results_ct (p := 2) (q := 3) rfl _ _ w.heap.size _ _ rfl rfl (setRow_heap _ _ _ _ _ _ hr0.out) infoWord) rfl ⟨rfl, below_setRow ((Below.refl _ _).alloc (Nat.le_refl _) _) (Nat.le_refl _) _⟩
  · have e3 : (78 : Int) < s.size := by omega
    have e0 : ¬ (s.size : Int) = 0 := by omega
    have e5 : ((s.size : Int) == 0) = false := by rw [beq_eq_false_iff_ne]; exact e0
    clear h
    go_enter Tryd.func13, Tryd.ntmps13
    go_wp2_with (refine wpList_store_row rfl 24 _ _ rfl w.heap.size #[.int .u64 0, .int .u64 0, .int .u64 0, .int .u64 0] rfl rfl 24 #[.int .u64 0, .int .u64 0, .int .u64 0, .int .u64 0] (by exact hr0.out) infoWord rfl (pw_one 0) ?_)
    (try simp only [Exit.inBlock, Exit.then])
    exact bodyPost_ret (v := .tuple #[.agg #[.int .u64 0, .int .u64 0, .int .u64 0, .int .u64 0], .int .i64 4]) (results_ct (p := 2) (q := 3) rfl _ _ w.heap.size _ _ rfl rfl (setRow_heap _ _ _ _ _ _ hr0.out) infoWord) rfl ⟨rfl, below_setRow ((Below.refl _ _).alloc (Nat.le_refl _) _) (Nat.le_refl _) _⟩
  · have h0 : 0 < s.size := by omega
    have hz := hz h0
    by_cases h78 : s.size ≤ 78
    · have e3 : (s.size : Int) ≤ 78 := by omega
      have e0 : ¬ (s.size : Int) = 0 := by omega
      have e1 : (1 : Int) < s.size := by omega
      have e5 : ((s.size : Int) == 0) = false := by rw [beq_eq_false_iff_ne]; exact e0
      clear h h78
      go_enter Tryd.func13, Tryd.ntmps13
      go_wp2_with (refine wpList_store_row rfl 24 _ _ rfl w.heap.size #[.int .u64 0, .int .u64 0, .int .u64 0, .int .u64 0] rfl rfl 24 #[.int .u64 0, .int .u64 0, .int .u64 0, .int .u64 0] (by exact hr0.out) infoWord rfl (pw_one 0) ?_)
      (try simp only [Exit.inBlock, Exit.then])
      exact bodyPost_ret (v := .tuple #[.agg #[.int .u64 0, .int .u64 0, .int .u64 0, .int .u64 0], .int .i64 4]) (results_ct (p := 2) (q := 3) rfl _ _ w.heap.size _ _ rfl rfl (setRow_heap _ _ _ _ _ _ hr0.out) infoWord) rfl ⟨rfl, below_setRow ((Below.refl _ _).alloc (Nat.le_refl _) _) (Nat.le_refl _) _⟩
    · have e3 : (78 : Int) < s.size := by omega
      have e0 : ¬ (s.size : Int) = 0 := by omega
      have e5 : ((s.size : Int) == 0) = false := by rw [beq_eq_false_iff_ne]; exact e0
      clear h h78 hz
      go_enter Tryd.func13, Tryd.ntmps13
      go_wp2_with (refine wpList_store_row rfl 24 _ _ rfl w.heap.size #[.int .u64 0, .int .u64 0, .int .u64 0, .int .u64 0] rfl rfl 24 #[.int .u64 0, .int .u64 0, .int .u64 0, .int .u64 0] (by exact hr0.out) infoWord rfl (pw_one 0) ?_)
      (try simp only [Exit.inBlock, Exit.then])
      exact bodyPost_ret (v := .tuple #[.agg #[.int .u64 0, .int .u64 0, .int .u64 0, .int .u64 0], .int .i64 4]) (results_ct (p := 2) (q := 3) rfl _ _ w.heap.size _ _ rfl rfl (setRow_heap _ _ _ _ _ _ hr0.out) infoWord) rfl ⟨rfl, below_setRow ((Below.refl _ _).alloc (Nat.le_refl _) _) (Nat.le_refl _) _⟩
end Go.Proofs.YtmhgnlngcjckbaaDoor
namespace Go.Proofs.YtmhgnlngcjckbaaDoor
open Go.RowKit

theorem list48 {s : ByteArray} (h0 : 0 < s.size) (h1 : s.size = 1) (hz : ((s[0]'h0).toNat : Int) = 48) : (s.toList == [48]) = true := by
  obtain ⟨⟨l⟩⟩ := s
  have hl : l.length = 1 := h1
  match l, hl with
  | [x], _ =>
    have hx : x.toNat = 48 := by
      have h : ((x.toNat : Nat) : Int) = 48 := hz
      omega
    have e : x = 48 := UInt8.toNat_inj.1 hx
    subst e
    rw [ByteArray.toList_eq]
    rfl
theorem list48n {s : ByteArray} (h1 : 1 < s.size) : (s.toList == [48]) = false := by
  rw [beq_eq_false_iff_ne]
  intro h
  rw [ByteArray.toList_eq] at h
  have h2 : s.data.size = 1 := by
    have := congrArg List.length h
    simpa using this
  have h3 : 1 < s.data.size := h1
  omega
/-- The first place that holds no digit. -/
theorem first_bad (s : ByteArray) : ∀ n, n ≤ s.size → ∃ N, N ≤ n ∧ (∀ j (hj : j < s.size), j < N → 48 ≤ s[j].toNat ∧ s[j].toNat ≤ 57) ∧ (N < n → ∀ hj : N < s.size, s[N].toNat < 48 ∨ 57 < s[N].toNat)
  | 0, _ => ⟨0, by omega, fun j hj h => by omega, fun h => by omega⟩
  | n + 1, h => by
    obtain ⟨N, h1, h2, h3⟩ := first_bad s n (by omega)
    by_cases hN : N < n
    · exact ⟨N, by omega, h2, fun _ => h3 hN⟩
    · obtain rfl : N = n := by omega
      by_cases hg : 48 ≤ (s[N]'(by omega)).toNat ∧ (s[N]'(by omega)).toNat ≤ 57
      · refine ⟨N + 1, by omega, fun j hj hjn => ?_, fun h => by omega⟩
        by_cases e : j = N
        · subst e; exact hg
        · exact h2 j hj (by omega)
      · exact ⟨N, by omega, h2, fun _ hj => by omega⟩
/-- BOTH TELL THE SAME. -/
theorem parses_same (s : ByteArray) (hs : s.size ≤ maxLen) : ∃ p q : Value, (∀ w, Calls Tryd.prog 12 #[.string s] w fun e w' => e = .returned (.tuple #[p, q]) ∧ Below w.heap.size w w') ∧ (∀ w, Calls Tryd.prog 13 #[.string s] w fun e w' => e = .returned (.tuple #[p, q]) ∧ Below w.heap.size w w') ∧ ((∃ x : Nat, p = .agg (pw x)) ∧ ∃ n : Int, q = .int .i64 n) := by
  have z0 : (#[.int .u64 0, .int .u64 0, .int .u64 0, .int .u64 0] : Array Value) = pw 0 := by kernel_rfl
  have form : (∀ w, Calls Tryd.prog 24 #[.string s] w fun e w' => e = .returned (.bool false) ∧ w = w') → (∀ w, Calls Tryd.prog 13 #[.string s] w fun e w' => e = .returned (.tuple #[.agg #[.int .u64 0, .int .u64 0, .int .u64 0, .int .u64 0], .int .i64 4]) ∧ Below w.heap.size w w') → ∃ p q : Value, (∀ w, Calls Tryd.prog 12 #[.string s] w fun e w' => e = .returned (.tuple #[p, q]) ∧ Below w.heap.size w w') ∧ (∀ w, Calls Tryd.prog 13 #[.string s] w fun e w' => e = .returned (.tuple #[p, q]) ∧ Below w.heap.size w w') ∧ ((∃ x : Nat, p = .agg (pw x)) ∧ ∃ n : Int, q = .int .i64 n) :=
    fun h1 h2 => ⟨_, _, fun w => parse_bad s w h1, h2, ⟨0, by rw [z0]⟩, 4, rfl⟩
  by_cases h00 : s.size = 0
  · have hq : s = ByteArray.empty := by
      apply ByteArray.ext
      exact Array.eq_empty_of_size_eq_zero h00
    exact form (fun w => isdec_empty s w (by rw [hq, ByteArray.toList_eq]; rfl)) (fun w => rparse_form s w hs (.inl h00))
  · by_cases h78 : 78 < s.size
    · exact form (fun w => isdec_long s w h78 hs) (fun w => rparse_form s w hs (.inr (.inl h78)))
    · have h0 : 0 < s.size := by omega
      by_cases hled : 1 < s.size ∧ ((s[0]'h0).toNat : Int) = 48
      · exact form (fun w => isdec_led s w h0 (by omega) hled.2 (list48n hled.1)) (fun w => rparse_form s w hs (.inr (.inr ⟨hled.1, fun _ => hled.2⟩)))
      · obtain ⟨N, hN, good, bad⟩ := first_bad s s.size (Nat.le_refl _)
        have hlead : 1 < s.size → ¬ ((s[0]'h0).toNat : Int) = 48 := fun h1 h2 => hled ⟨h1, h2⟩
        have hdec : ∀ w, Calls Tryd.prog 24 #[.string s] w fun e w' => e = .returned (.bool (decide (N = s.size))) ∧ w = w' := fun w => by
          by_cases hz : ((s[0]'h0).toNat : Int) = 48
          · exact isdec_nought s N w h0 (by omega) hz (list48 h0 (by have := fun h => hlead h hz; omega) hz) hN good (fun hj => bad hj hj)
          · exact isdec_plain s N w h0 (by omega) hz hN good (fun hj => bad hj hj)
        have hf : ∀ j (hj : j < s.size), j < N → s[j].toNat = (fun j => (s.data.getD j 48).toNat - 48) j + 48 ∧ (fun j => (s.data.getD j 48).toNat - 48) j ≤ 9 := fun j hj hjN => by
          have hg := good j hj hjN
          have e : s.data.getD j 48 = s[j] := by
            rw [Array.getD_eq_getD_getElem?, Array.getElem?_eq_getElem hj]
            rfl
          show s[j].toNat = (s.data.getD j 48).toNat - 48 + 48 ∧ (s.data.getD j 48).toNat - 48 ≤ 9
          rw [e]
          omega
        by_cases he : N = s.size
        · rw [decide_eq_true he] at hdec
          subst he
          have a := fun w => parse_walk s _ w (by omega) (fun j hj => hf j hj hj) hdec
          have b := fun w => rparse_walk s _ w h0 (by omega) hlead (fun j hj => hf j hj hj)
          unfold ParsePost at a b
          split at a
          · rename_i h
            simp only [if_pos h] at b
            exact ⟨_, _, a, b, ⟨_, rfl⟩, 0, rfl⟩
          · rename_i h
            simp only [if_neg h] at b
            exact ⟨_, _, a, b, ⟨0, by rw [z0]⟩, _, rfl⟩
        · rw [decide_eq_false he] at hdec
          exact form hdec (fun w => rparse_bad s _ N w h0 (by omega) hlead (by omega) hf (bad (by omega) (by omega)))
end Go.Proofs.YtmhgnlngcjckbaaDoor
namespace Go.Proofs.YtmhgnlngcjckbaaDoor
open Go.RowKit
/-- The digits of a list of bytes. -/
def dgL (l : List UInt8) (j : Nat) : Nat := (l.getD j 48).toNat - 48
theorem dnum_congr {f g : Nat → Nat} : ∀ {n : Nat}, (∀ j, j < n → f j = g j) → dnum f n = dnum g n
  | 0, _ => rfl
  | n + 1, h => by
    show dnum f n * 10 + f n = dnum g n * 10 + g n
    rw [dnum_congr (fun j hj => h j (by omega)), h n (by omega)]
theorem byte_dig {r : Nat} (h : r < 10) : (UInt8.ofNat (48 + r)).toNat = 48 + r := by
  rw [UInt8.toNat_ofNat']
  omega
theorem dec_read (x : Nat) : 0 < (Lib.decDigits x).length ∧ dnum (dgL (Lib.decDigits x)) (Lib.decDigits x).length = x ∧ (∀ j, j < (Lib.decDigits x).length → 48 ≤ ((Lib.decDigits x).getD j 48).toNat ∧ ((Lib.decDigits x).getD j 48).toNat ≤ 57) ∧ (0 < x → ((Lib.decDigits x).getD 0 48).toNat ≠ 48) := by
  induction x using Nat.strongRecOn with
  | ind x ih =>
    by_cases hx : x < 10
    · have e : Lib.decDigits x = [UInt8.ofNat (48 + x)] := by
        exact Lib.decDigits_one hx
      rw [e]
      have hb := byte_dig hx
      refine ⟨by simp, ?_, fun j hj => ?_, fun h0 => ?_⟩
      · show 0 * 10 + dgL [UInt8.ofNat (48 + x)] 0 = x
        unfold dgL
        simp only [List.getD_cons_zero]
        rw [hb]
        omega
      · obtain rfl : j = 0 := by simpa using hj
        simp only [List.getD_cons_zero]
        rw [hb]
        omega
      · simp only [List.getD_cons_zero]
        rw [hb]
        omega
    · have e := dec_split 1 (x / 10) (x % 10) (by omega) (by omega)
      rw [show x / 10 * 10 ^ 1 + x % 10 = x by omega] at e
      have e2 : ((List.range 1).map fun t => UInt8.ofNat (48 + x % 10 / 10 ^ (1 - 1 - t) % 10)) = [UInt8.ofNat (48 + x % 10)] := by
        simp [List.range, List.range.loop]
      rw [e2] at e
      obtain ⟨h1, h2, h3, h4⟩ := ih (x / 10) (by omega)
      obtain ⟨l, hl⟩ : ∃ l, Lib.decDigits (x / 10) = l := ⟨_, rfl⟩
      rw [hl] at e h1 h2 h3 h4
      rw [e]
      have hb := byte_dig (r := x % 10) (by omega)
      have ga : ∀ j, j < l.length → (l ++ [UInt8.ofNat (48 + x % 10)]).getD j 48 = l.getD j 48 := fun j hj => by
        simp [List.getD_eq_getElem?_getD, List.getElem?_append_left hj]
      have gb : (l ++ [UInt8.ofNat (48 + x % 10)]).getD l.length 48 = UInt8.ofNat (48 + x % 10) := by
        simp [List.getD_eq_getElem?_getD]
      refine ⟨by simp, ?_, fun j hj => ?_, fun _ => ?_⟩
      · rw [List.length_append]
        show dnum _ l.length * 10 + dgL _ l.length = x
        rw [dnum_congr (g := dgL l) (fun j hj => by unfold dgL; rw [ga j hj]), h2]
        unfold dgL
        rw [gb, hb]
        omega
      · rw [List.length_append] at hj
        by_cases q : j < l.length
        · rw [ga j q]; exact h3 j q
        · obtain rfl : j = l.length := by simp at hj; omega
          rw [gb, hb]; omega
      · rw [ga 0 h1]; exact h4 (by omega)
theorem parse_decimal (x : Nat) (hx : x < 115792089237316195423570985008687907853269984665640564039457584007913129639936) (w : World) : Calls Tryd.prog 12 #[.string (decS x)] w fun e w' => e = .returned (.tuple #[.agg (pw x), .int .i64 0]) ∧ Below w.heap.size w w' := by
  obtain ⟨h1, h2, h3, h4⟩ := dec_read x
  have h5 := dec_len 78 x (Nat.lt_of_lt_of_le hx (by decide)) (by omega)
  have hsz : (decS x).size = (Lib.decDigits x).length := rfl
  have hat : ∀ j (hj : j < (decS x).size), (decS x)[j] = (Lib.decDigits x).getD j 48 := fun j hj => by
    rw [List.getD_eq_getElem?_getD, List.getElem?_eq_getElem (by rw [← hsz]; exact hj)]
    rfl
  have hf : ∀ j (hj : j < (decS x).size), (decS x)[j].toNat = dgL (Lib.decDigits x) j + 48 ∧ dgL (Lib.decDigits x) j ≤ 9 := fun j hj => by
    have := h3 j hj
    rw [hat j hj]
    unfold dgL
    omega
  have h0 : 0 < (decS x).size := h1
  have good : ∀ j (hj : j < (decS x).size), j < (decS x).size → 48 ≤ (decS x)[j].toNat ∧ (decS x)[j].toNat ≤ 57 := fun j hj _ => by rw [hat j hj]; exact h3 j hj
  have hD : ∀ w, Calls Tryd.prog 24 #[.string (decS x)] w fun e w' => e = .returned (.bool true) ∧ w = w' := fun w => by
    by_cases hz : (((decS x)[0]'h0).toNat : Int) = 48
    · have hx0 : x = 0 := by
        apply Classical.byContradiction
        intro hn
        refine h4 (by omega) ?_
        rw [hat 0 h0] at hz
        omega
      have h := isdec_nought (decS x) (decS x).size w h0 h5 hz (by rw [hx0, ByteArray.toList_eq]; show (Lib.decDigits 0 == [48]) = true; rw [Lib.decDigits_one (by omega)]; rfl) (Nat.le_refl _) good (fun hj => by omega)
      rwa [decide_eq_true rfl] at h
    · have h := isdec_plain (decS x) (decS x).size w h0 h5 hz (Nat.le_refl _) good (fun hj => by omega)
      rwa [decide_eq_true rfl] at h
  have h := parse_walk (decS x) (dgL (Lib.decDigits x)) w h5 hf hD
  unfold ParsePost at h
  rw [hsz, h2, if_pos hx] at h
  exact h
end Go.Proofs.YtmhgnlngcjckbaaDoor

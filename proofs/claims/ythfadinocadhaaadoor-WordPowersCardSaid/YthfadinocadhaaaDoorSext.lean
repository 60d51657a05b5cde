/- What word.SignExtend comes to, called with any two words in any world. -/
import Derived.Test.YthfadinocadhaaaDoorByte
import Derived.Test.YthfadinocadhaaaDoorTail
import Derived.Test.YthfadinocadhaaaDoorShls
import Derived.Test.YthfadinocadhaaaDoorNot
namespace Go.Proofs.YthfadinocadhaaaDoor
open Go.RowKit

/-- Four cells that may be written. -/
def Free4 (B : Nat) (wx : World) : Prop := wx.frozen? ⟨B, 0, none⟩ = false ∧ wx.frozen? ⟨B, 1, none⟩ = false ∧ wx.frozen? ⟨B, 2, none⟩ = false ∧ wx.frozen? ⟨B, 3, none⟩ = false
theorem Free4.below {B : Nat} {wx w' : World} (h : Free4 B wx) (hb : Below wx.heap.size wx w') (hB : B < wx.heap.size) : Free4 B w' :=
  ⟨(hb.frozen hB).trans h.1, (hb.frozen hB).trans h.2.1, (hb.frozen hB).trans h.2.2.1, (hb.frozen hB).trans h.2.2.2⟩

set_option maxRecDepth 100000 in
set_option maxHeartbeats 1000000 in
theorem sext_in (k0 k1 k2 k3 a0 a1 a2 a3 n s p0 p1 p2 p3 : Nat) (Va Vs Vy : Value) (ea : Va = .agg #[.int .u64 a0, .int .u64 a1, .int .u64 a2, .int .u64 a3]) (es : Vs = .agg #[.int .u64 s, .int .u64 0, .int .u64 0, .int .u64 0]) (hn : (n : Int) ≤ 30) (hs : 8 * (31 - (n : Int)) = (s : Int)) (w : World)
    (hS : ∀ w, Calls Tryd.prog 52 #[.agg #[.int .u64 k0, .int .u64 k1, .int .u64 k2, .int .u64 k3]] w fun e w' => e = .returned (.tuple #[.int .u64 n, .bool true]) ∧ Below w.heap.size w w')
    (hL : ∀ w, Calls Tryd.prog 37 #[Vs, Va] w fun e w' => e = .returned Vy ∧ Below w.heap.size w w')
    (hR : ∀ w, Calls Tryd.prog 41 #[Vs, Vy] w fun e w' => e = .returned (.agg #[.int .u64 p0, .int .u64 p1, .int .u64 p2, .int .u64 p3]) ∧ Below w.heap.size w w') :
    Calls Tryd.prog 33 #[.agg #[.int .u64 k0, .int .u64 k1, .int .u64 k2, .int .u64 k3], .agg #[.int .u64 a0, .int .u64 a1, .int .u64 a2, .int .u64 a3]] w fun e w' => e = .returned (.agg #[.int .u64 p0, .int .u64 p1, .int .u64 p2, .int .u64 p3]) ∧ Below w.heap.size w w' := by
  have hO := fun w => of_walk s w
  have hn0 : (0 : Int) ≤ n := by omega
  have HL := Lib.hid hL; clear hL
  have HR := Lib.hid hR; clear hR
  have EA := Lib.hid ea; clear ea
  have ES := Lib.hid es; clear es
  go_enter Tryd.func33, Tryd.ntmps33
  go_wp2_with fail
  refine (hS _).mono ?_
  rintro e w1 ⟨rfl, hb⟩
  obtain ⟨y0, -, -⟩ := after1 (b := w.heap.size + 1) (i := 0) (v := .int .u64 a0) hb (by first | (simp; done) | (simp; omega)) (by go_cell) (by go_cell)
  obtain ⟨y1, -, -⟩ := after1 (b := w.heap.size + 1) (i := 1) (v := .int .u64 a1) hb (by first | (simp; done) | (simp; omega)) (by go_cell) (by go_cell)
  obtain ⟨y2, -, -⟩ := after1 (b := w.heap.size + 1) (i := 2) (v := .int .u64 a2) hb (by first | (simp; done) | (simp; omega)) (by go_cell) (by go_cell)
  obtain ⟨y3, -, -⟩ := after1 (b := w.heap.size + 1) (i := 3) (v := .int .u64 a3) hb (by first | (simp; done) | (simp; omega)) (by go_cell) (by go_cell)
  obtain ⟨⟨q0, q1, q2, q3⟩, ⟨f0, f1, f2, f3⟩, z, b⟩ := after4 (w := w) (B := w.heap.size) (w.heap.size + 1 + 1) hb (by go_grown) (by simp; omega) (by simp) (by go_cell) (by go_cell) (by go_cell) (by go_cell) (by go_cell) (by go_cell) (by go_cell) (by go_cell)
  clear hb
  go_wp2_with fail
  refine (hO _).mono ?_
  rintro e w2 ⟨rfl, hb⟩
  have hz1 : w.heap.size + 1 < w1.heap.size := by omega
  have hA : Holds4 (w.heap.size + 1) (.int .u64 a0) (.int .u64 a1) (.int .u64 a2) (.int .u64 a3) w2 := Holds4.below ⟨y0, y1, y2, y3⟩ hb hz1
  obtain ⟨m0, m1, m2, m3⟩ := hA
  obtain ⟨⟨r0, r1, r2, r3⟩, ⟨g0, g1, g2, g3⟩, h, c⟩ := after4 (w := w) (B := w.heap.size) (w.heap.size + 1 + 1) hb b b.size z q0 q1 q2 q3 f0 f1 f2 f3
  have hfz : ∀ (W : World) (p : Addr), W.frozen? p = false → p.block < W.heap.size → (W.alloc (.cells #[.int .u64 s, .int .u64 0, .int .u64 0, .int .u64 0] 24)).frozen? p = false := fun W p h0 h1 => (World.frozen?_alloc_old _ _ _ (Nat.ne_of_lt h1)).trans h0
  have hz : w.heap.size + 1 + 1 < w2.heap.size := h
  clear hb q0 q1 q2 q3 f0 f1 f2 f3 z y0 y1 y2 y3 hz1
  have hz1 : w.heap.size + 1 < w2.heap.size := by omega
  have hcl : (ClG w w2.heap.size (fun wx => Holds4 (w.heap.size + 1) (.int .u64 a0) (.int .u64 a1) (.int .u64 a2) (.int .u64 a3) wx ∧ Holds4 w2.heap.size (.int .u64 s) (.int .u64 0) (.int .u64 0) (.int .u64 0) wx ∧ (Holds4 (w.heap.size + 1 + 1) (.int .u64 0) (.int .u64 0) (.int .u64 0) (.int .u64 0) wx ∧ Free4 (w.heap.size + 1 + 1) wx))) (w2.alloc (.cells #[.int .u64 s, .int .u64 0, .int .u64 0, .int .u64 0] 24)) := ⟨by go_grown, by simp, ⟨by go_cell, by go_cell, by go_cell, by go_cell⟩, ⟨by go_cell, by go_cell, by go_cell, by go_cell⟩, ⟨by go_cell, by go_cell, by go_cell, by go_cell⟩, hfz w2 _ g0 hz, hfz w2 _ g1 hz, hfz w2 _ g2 hz, hfz w2 _ g3 hz⟩
  have hkeep : ∀ wx w', w2.heap.size < wx.heap.size → Below wx.heap.size wx w' → (fun wx => Holds4 (w.heap.size + 1) (.int .u64 a0) (.int .u64 a1) (.int .u64 a2) (.int .u64 a3) wx ∧ Holds4 w2.heap.size (.int .u64 s) (.int .u64 0) (.int .u64 0) (.int .u64 0) wx ∧ (Holds4 (w.heap.size + 1 + 1) (.int .u64 0) (.int .u64 0) (.int .u64 0) (.int .u64 0) wx ∧ Free4 (w.heap.size + 1 + 1) wx)) wx → (fun wx => Holds4 (w.heap.size + 1) (.int .u64 a0) (.int .u64 a1) (.int .u64 a2) (.int .u64 a3) wx ∧ Holds4 w2.heap.size (.int .u64 s) (.int .u64 0) (.int .u64 0) (.int .u64 0) wx ∧ (Holds4 (w.heap.size + 1 + 1) (.int .u64 0) (.int .u64 0) (.int .u64 0) (.int .u64 0) wx ∧ Free4 (w.heap.size + 1 + 1) wx)) w' := fun wx w' ht hb ⟨h1, h2, h3, h4⟩ => ⟨h1.below hb (by omega), h2.below hb (by omega), h3.below hb (by omega), h4.below hb (by omega)⟩
  have HCL := Lib.hid hcl; clear hcl
  have HLs : ∀ wx, (ClG w w2.heap.size (fun wx => Holds4 (w.heap.size + 1) (.int .u64 a0) (.int .u64 a1) (.int .u64 a2) (.int .u64 a3) wx ∧ Holds4 w2.heap.size (.int .u64 s) (.int .u64 0) (.int .u64 0) (.int .u64 0) wx ∧ (Holds4 (w.heap.size + 1 + 1) (.int .u64 0) (.int .u64 0) (.int .u64 0) (.int .u64 0) wx ∧ Free4 (w.heap.size + 1 + 1) wx))) wx → (Instr.loadAt 24 (.pointer (some ⟨w2.heap.size, 0, none⟩))).run Tryd.prog wx = .ok Vs wx := fun wx hC => by rw [ES.out]; exact load4 _ hC.2.2.2.1
  have HLa : ∀ wx, (ClG w w2.heap.size (fun wx => Holds4 (w.heap.size + 1) (.int .u64 a0) (.int .u64 a1) (.int .u64 a2) (.int .u64 a3) wx ∧ Holds4 w2.heap.size (.int .u64 s) (.int .u64 0) (.int .u64 0) (.int .u64 0) wx ∧ (Holds4 (w.heap.size + 1 + 1) (.int .u64 0) (.int .u64 0) (.int .u64 0) (.int .u64 0) wx ∧ Free4 (w.heap.size + 1 + 1) wx))) wx → (Instr.loadAt 24 (.pointer (some ⟨w.heap.size + 1, 0, none⟩))).run Tryd.prog wx = .ok Va wx := fun wx hC => by rw [EA.out]; exact load4 _ hC.2.2.1
  have HC1 : ∀ wx, (ClG w w2.heap.size (fun wx => Holds4 (w.heap.size + 1) (.int .u64 a0) (.int .u64 a1) (.int .u64 a2) (.int .u64 a3) wx ∧ Holds4 w2.heap.size (.int .u64 s) (.int .u64 0) (.int .u64 0) (.int .u64 0) wx ∧ (Holds4 (w.heap.size + 1 + 1) (.int .u64 0) (.int .u64 0) (.int .u64 0) (.int .u64 0) wx ∧ Free4 (w.heap.size + 1 + 1) wx))) wx → Calls Tryd.prog 37 #[Vs, Va] wx fun e w' => e = .returned Vy ∧ (ClG w w2.heap.size (fun wx => Holds4 (w.heap.size + 1) (.int .u64 a0) (.int .u64 a1) (.int .u64 a2) (.int .u64 a3) wx ∧ Holds4 w2.heap.size (.int .u64 s) (.int .u64 0) (.int .u64 0) (.int .u64 0) wx ∧ (Holds4 (w.heap.size + 1 + 1) (.int .u64 0) (.int .u64 0) (.int .u64 0) (.int .u64 0) wx ∧ Free4 (w.heap.size + 1 + 1) wx))) w' := fun wx hC => (HL.out wx).mono fun _ _ h => ⟨h.1, hC.below hkeep h.2⟩
  have HC2 : ∀ wx, (ClG w w2.heap.size (fun wx => Holds4 (w.heap.size + 1) (.int .u64 a0) (.int .u64 a1) (.int .u64 a2) (.int .u64 a3) wx ∧ Holds4 w2.heap.size (.int .u64 s) (.int .u64 0) (.int .u64 0) (.int .u64 0) wx ∧ (Holds4 (w.heap.size + 1 + 1) (.int .u64 0) (.int .u64 0) (.int .u64 0) (.int .u64 0) wx ∧ Free4 (w.heap.size + 1 + 1) wx))) wx → Calls Tryd.prog 41 #[Vs, Vy] wx fun e w' => e = .returned (.agg #[.int .u64 p0, .int .u64 p1, .int .u64 p2, .int .u64 p3]) ∧ (ClG w w2.heap.size (fun wx => Holds4 (w.heap.size + 1) (.int .u64 a0) (.int .u64 a1) (.int .u64 a2) (.int .u64 a3) wx ∧ Holds4 w2.heap.size (.int .u64 s) (.int .u64 0) (.int .u64 0) (.int .u64 0) wx ∧ (Holds4 (w.heap.size + 1 + 1) (.int .u64 0) (.int .u64 0) (.int .u64 0) (.int .u64 0) wx ∧ Free4 (w.heap.size + 1 + 1) wx))) w' := fun wx hC => (HR.out wx).mono fun _ _ h => ⟨h.1, hC.below hkeep h.2⟩
  clear hkeep m0 m1 m2 m3 r0 r1 r2 r3 g0 g1 g2 g3 hz1 c hfz hz
  have H1 := Lib.hid HLs; clear HLs
  have H2 := Lib.hid HLa; clear HLa
  have H3 := Lib.hid HC1; clear HC1
  have H4 := Lib.hid HC2; clear HC2
  go_wp2_with fail
  refine region_quiet_tail 5 (ClG w w2.heap.size (fun wx => Holds4 (w.heap.size + 1) (.int .u64 a0) (.int .u64 a1) (.int .u64 a2) (.int .u64 a3) wx ∧ Holds4 w2.heap.size (.int .u64 s) (.int .u64 0) (.int .u64 0) (.int .u64 0) wx ∧ (Holds4 (w.heap.size + 1 + 1) (.int .u64 0) (.int .u64 0) (.int .u64 0) (.int .u64 0) wx ∧ Free4 (w.heap.size + 1 + 1) wx))) (by kernel_rfl) (by kernel_rfl) (HCL.out.drew (fun _ h => h)) ?_
  simp only [List.take_succ_cons, List.take_zero, List.drop_succ_cons, List.drop_zero]
  with_reducible refine q_load 24 (.tmp 7) (.pointer (some ⟨w2.heap.size, 0, none⟩)) Vs rfl (by kernel_rfl) (by kernel_rfl) H1.out ?_
  with_reducible refine q_load 24 (.tmp 7) (.pointer (some ⟨w2.heap.size, 0, none⟩)) Vs rfl (by kernel_rfl) (by kernel_rfl) H1.out ?_
  with_reducible refine q_load 24 (.tmp 3) (.pointer (some ⟨w.heap.size + 1, 0, none⟩)) Va rfl (by kernel_rfl) (by kernel_rfl) H2.out ?_
  with_reducible refine q_call 37 #[Vs, Va] Vy (by kernel_rfl) (fun _ => by kernel_rfl) H3.out ?_
  with_reducible refine q_call 41 #[Vs, Vy] (.agg #[.int .u64 p0, .int .u64 p1, .int .u64 p2, .int .u64 p3]) (by kernel_rfl) (fun _ => by kernel_rfl) H4.out ?_
  with_reducible refine wpQuiet_nil ?_
  intro wx hC
  obtain ⟨hB, ht, -, -, ⟨q0, q1, q2, q3⟩, f0, f1, f2, f3⟩ := hC
  have hz3 : w.heap.size + 1 + 1 < wx.heap.size := by omega
  go_simp
  go_wp2
  refine bodyPost_ret (by simp [results, Tryd.results33, go_sem, q0, q1, q2, q3]; try rfl) rfl ⟨rfl, ?_⟩
  go_grown

set_option maxRecDepth 100000 in
set_option maxHeartbeats 1000000 in
theorem sext_out (k0 k1 k2 k3 n a0 a1 a2 a3 : Nat) (hn : (30 : Int) < n) (w : World)
    (hS : ∀ w, Calls Tryd.prog 52 #[.agg #[.int .u64 k0, .int .u64 k1, .int .u64 k2, .int .u64 k3]] w fun e w' => e = .returned (.tuple #[.int .u64 n, .bool true]) ∧ Below w.heap.size w w') :
    Calls Tryd.prog 33 #[.agg #[.int .u64 k0, .int .u64 k1, .int .u64 k2, .int .u64 k3], .agg #[.int .u64 a0, .int .u64 a1, .int .u64 a2, .int .u64 a3]] w fun e w' => e = .returned (.agg #[.int .u64 a0, .int .u64 a1, .int .u64 a2, .int .u64 a3]) ∧ Below w.heap.size w w' := by
  go_enter Tryd.func33, Tryd.ntmps33
  go_wp2_with fail
  refine (hS _).mono ?_
  rintro e w1 ⟨rfl, hb⟩
  obtain ⟨y0, -, -⟩ := after1 (b := w.heap.size + 1) (i := 0) (v := .int .u64 a0) hb (by first | (simp; done) | (simp; omega)) (by go_cell) (by go_cell)
  obtain ⟨y1, -, -⟩ := after1 (b := w.heap.size + 1) (i := 1) (v := .int .u64 a1) hb (by first | (simp; done) | (simp; omega)) (by go_cell) (by go_cell)
  obtain ⟨y2, -, -⟩ := after1 (b := w.heap.size + 1) (i := 2) (v := .int .u64 a2) hb (by first | (simp; done) | (simp; omega)) (by go_cell) (by go_cell)
  obtain ⟨y3, -, -⟩ := after1 (b := w.heap.size + 1) (i := 3) (v := .int .u64 a3) hb (by first | (simp; done) | (simp; omega)) (by go_cell) (by go_cell)
  obtain ⟨⟨q0, q1, q2, q3⟩, ⟨f0, f1, f2, f3⟩, z, b⟩ := after4 (w := w) (B := w.heap.size) (w.heap.size + 1 + 1) hb (by go_grown) (by simp; omega) (by simp) (by go_cell) (by go_cell) (by go_cell) (by go_cell) (by go_cell) (by go_cell) (by go_cell) (by go_cell)
  clear hb
  go_wp2
  refine bodyPost_ret (by simp [results, Tryd.results33, go_sem, q0, q1, q2, q3]; try rfl) rfl ⟨rfl, ?_⟩
  go_grown

set_option maxRecDepth 100000 in
set_option maxHeartbeats 1000000 in
theorem sext_far (k0 k1 k2 k3 a0 a1 a2 a3 : Nat) (w : World)
    (hS : ∀ w, Calls Tryd.prog 52 #[.agg #[.int .u64 k0, .int .u64 k1, .int .u64 k2, .int .u64 k3]] w fun e w' => e = .returned (.tuple #[.int .u64 0, .bool false]) ∧ Below w.heap.size w w') :
    Calls Tryd.prog 33 #[.agg #[.int .u64 k0, .int .u64 k1, .int .u64 k2, .int .u64 k3], .agg #[.int .u64 a0, .int .u64 a1, .int .u64 a2, .int .u64 a3]] w fun e w' => e = .returned (.agg #[.int .u64 a0, .int .u64 a1, .int .u64 a2, .int .u64 a3]) ∧ Below w.heap.size w w' := by
  go_enter Tryd.func33, Tryd.ntmps33
  go_wp2_with fail
  refine (hS _).mono ?_
  rintro e w1 ⟨rfl, hb⟩
  obtain ⟨y0, -, -⟩ := after1 (b := w.heap.size + 1) (i := 0) (v := .int .u64 a0) hb (by first | (simp; done) | (simp; omega)) (by go_cell) (by go_cell)
  obtain ⟨y1, -, -⟩ := after1 (b := w.heap.size + 1) (i := 1) (v := .int .u64 a1) hb (by first | (simp; done) | (simp; omega)) (by go_cell) (by go_cell)
  obtain ⟨y2, -, -⟩ := after1 (b := w.heap.size + 1) (i := 2) (v := .int .u64 a2) hb (by first | (simp; done) | (simp; omega)) (by go_cell) (by go_cell)
  obtain ⟨y3, -, -⟩ := after1 (b := w.heap.size + 1) (i := 3) (v := .int .u64 a3) hb (by first | (simp; done) | (simp; omega)) (by go_cell) (by go_cell)
  obtain ⟨⟨q0, q1, q2, q3⟩, ⟨f0, f1, f2, f3⟩, z, b⟩ := after4 (w := w) (B := w.heap.size) (w.heap.size + 1 + 1) hb (by go_grown) (by simp; omega) (by simp) (by go_cell) (by go_cell) (by go_cell) (by go_cell) (by go_cell) (by go_cell) (by go_cell) (by go_cell)
  clear hb
  go_wp2
  refine bodyPost_ret (by simp [results, Tryd.results33, go_sem, q0, q1, q2, q3]; try rfl) rfl ⟨rfl, ?_⟩
  go_grown

/-- What Sar comes to, by fewer than 256 bits. -/
def sarN (s y : Nat) : Nat := if 57896044618658097711785492504343953926634992332820282019728792003956564819968 ≤ y then 115792089237316195423570985008687907853269984665640564039457584007913129639935 - (115792089237316195423570985008687907853269984665640564039457584007913129639935 - y) / 2 ^ s else y / 2 ^ s
/-- What SignExtend comes to. -/
def sextN (k x : Nat) : Nat := if k % 115792089237316195423570985008687907853269984665640564039457584007913129639936 ≤ 30 then sarN (8 * (31 - k % 115792089237316195423570985008687907853269984665640564039457584007913129639936)) (x * 2 ^ (8 * (31 - k % 115792089237316195423570985008687907853269984665640564039457584007913129639936)) % 115792089237316195423570985008687907853269984665640564039457584007913129639936) else x
-- WHAT SignExtend COMES TO.
theorem sext_any (k x : Nat) (w : World) :
    Calls Tryd.prog 33 #[wv k, wv x] w fun e w' => e = .returned (wv (sextN k x)) ∧ Below w.heap.size w w' := by
  have hS := fun w => small_any k w
  obtain ⟨k0, k1, k2, k3, -, -, -, -, ek, -⟩ := wv_parts k
  obtain ⟨a0, a1, a2, a3, -, -, -, -, ea, -⟩ := wv_parts x
  unfold sextN
  generalize k % 115792089237316195423570985008687907853269984665640564039457584007913129639936 = n at *
  rw [ek] at hS
  rw [ek]
  by_cases h1 : n < 18446744073709551616
  · rw [if_pos h1, decide_eq_true h1] at hS
    by_cases h2 : n ≤ 30
    · rw [if_pos h2]
      have hsb : 8 * (31 - n) ≤ 248 := by omega
      have hn8 : 8 * (31 - (n : Int)) = ((8 * (31 - n) : Nat) : Int) := by omega
      generalize 8 * (31 - n) = s at *
      have hsm : s % 115792089237316195423570985008687907853269984665640564039457584007913129639936 = s := Nat.mod_eq_of_lt (by omega)
      have hL := fun w => shl_any s x w
      have hR := fun w => sar_any s (x * 2 ^ s) w
      rw [hsm, Nat.min_eq_left (by omega)] at hL hR
      obtain ⟨p0, p1, p2, p3, -, -, -, -, ep, -⟩ := wv_parts (sarN s (x * 2 ^ s % 115792089237316195423570985008687907853269984665640564039457584007913129639936))
      have e1 : (if 57896044618658097711785492504343953926634992332820282019728792003956564819968 ≤ x * 2 ^ s % 115792089237316195423570985008687907853269984665640564039457584007913129639936 then 115792089237316195423570985008687907853269984665640564039457584007913129639935 - (115792089237316195423570985008687907853269984665640564039457584007913129639935 - x * 2 ^ s % 115792089237316195423570985008687907853269984665640564039457584007913129639936) / 2 ^ s else x * 2 ^ s % 115792089237316195423570985008687907853269984665640564039457584007913129639936 / 2 ^ s) = sarN s (x * 2 ^ s % 115792089237316195423570985008687907853269984665640564039457584007913129639936) := rfl
      rw [e1, ep] at hR
      rw [ep]
      have R := sext_in k0 k1 k2 k3 a0 a1 a2 a3 n s p0 p1 p2 p3 (wv x) (wv s) _ ea (wv_small (by omega)) (by omega) hn8 w hS hL hR
      rw [ea]
      exact R
    · rw [if_neg h2, ea]
      exact sext_out k0 k1 k2 k3 n a0 a1 a2 a3 (by omega) w hS
  · rw [if_neg h1, decide_eq_false h1] at hS
    rw [if_neg (by omega), ea]
    exact sext_far k0 k1 k2 k3 a0 a1 a2 a3 w hS
end Go.Proofs.YthfadinocadhaaaDoor

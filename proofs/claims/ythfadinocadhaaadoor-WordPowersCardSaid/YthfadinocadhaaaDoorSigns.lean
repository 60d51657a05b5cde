/- bailiwicklaw01.WordSigns answers true, called with any two words in any world: a sign that was extended stays, and a word is the bytes that it is made of: the walk. -/
import Derived.Test.YthfadinocadhaaaDoorSext
import Derived.Test.YthfadinocadhaaaDoorAlive
namespace Go.Proofs.YthfadinocadhaaaDoor
open Go.RowKit

/-- The number of the first k bytes. -/
def yN (x k : Nat) : Nat := x % 115792089237316195423570985008687907853269984665640564039457584007913129639936 / 256 ^ (32 - k)
theorem yN_zero (x : Nat) : yN x 0 = 0 := by
  unfold yN
  exact Nat.div_eq_of_lt (Nat.lt_of_lt_of_le (Nat.mod_lt _ (by omega)) (by decide))
theorem yN_full (x : Nat) : wv (yN x 32) = wv x := by
  unfold yN
  exact wv_congr (by simp)
theorem yN_succ (x k : Nat) (h : k < 32) : yN x k * 256 + byteN k x = yN x (k + 1) := by
  unfold yN byteN
  rw [Nat.mod_eq_of_lt (show k < 115792089237316195423570985008687907853269984665640564039457584007913129639936 by omega), if_pos (by omega)]
  unfold bt
  have e : 32 - k = (31 - k) + 1 := by omega
  rw [show 32 - (k + 1) = 31 - k by omega, e, Nat.pow_succ, ← Nat.div_div_eq_div_mul]
  generalize x % 115792089237316195423570985008687907853269984665640564039457584007913129639936 / 256 ^ (31 - k) = Y
  omega

theorem hfz4 (W : World) (o : Obj) {B : Nat} (h : Free4 B W) (hB : B < W.heap.size) : Free4 B (W.alloc o) :=
  ⟨(World.frozen?_alloc_old _ _ _ (Nat.ne_of_lt hB)).trans h.1, (World.frozen?_alloc_old _ _ _ (Nat.ne_of_lt hB)).trans h.2.1, (World.frozen?_alloc_old _ _ _ (Nat.ne_of_lt hB)).trans h.2.2.1, (World.frozen?_alloc_old _ _ _ (Nat.ne_of_lt hB)).trans h.2.2.2⟩

set_option maxRecDepth 100000 in
set_option maxHeartbeats 4000000 in
theorem signs_walk (x k0 k1 k2 k3 a0 a1 a2 a3 s0 s1 s2 s3 : Nat) (Vk Va Vs Vn Vm : Value) (w : World)
    (ek : Vk = .agg #[.int .u64 k0, .int .u64 k1, .int .u64 k2, .int .u64 k3]) (ea : Va = .agg #[.int .u64 a0, .int .u64 a1, .int .u64 a2, .int .u64 a3]) (es : Vs = .agg #[.int .u64 s0, .int .u64 s1, .int .u64 s2, .int .u64 s3]) (ex : wv x = Va)
    (hs0 : ∀ w, Calls Tryd.prog 33 #[.agg #[.int .u64 k0, .int .u64 k1, .int .u64 k2, .int .u64 k3], .agg #[.int .u64 a0, .int .u64 a1, .int .u64 a2, .int .u64 a3]] w fun e w' => e = .returned (.agg #[.int .u64 s0, .int .u64 s1, .int .u64 s2, .int .u64 s3]) ∧ Below w.heap.size w w')
    (hs1 : ∀ w, Calls Tryd.prog 33 #[Vk, Vs] w fun e w' => e = .returned Vs ∧ Below w.heap.size w w')
    (hn1 : ∀ w, Calls Tryd.prog 43 #[Va] w fun e w' => e = .returned Vn ∧ Below w.heap.size w w')
    (hn2 : ∀ w, Calls Tryd.prog 43 #[Vn] w fun e w' => e = .returned Va ∧ Below w.heap.size w w')
    (hn3 : ∀ w, Calls Tryd.prog 43 #[.agg #[.int .u64 0, .int .u64 0, .int .u64 0, .int .u64 0]] w fun e w' => e = .returned Vm ∧ Below w.heap.size w w')
    (had : ∀ w, Calls Tryd.prog 13 #[Va, Vn] w fun e w' => e = .returned Vm ∧ Below w.heap.size w w')
    (hqs : ∀ w, (binOp BinOp.neq 24 Vs Vs).run Tryd.prog w = .ok (.bool false) w) (hgs : ∀ o1 o2 w, (eqGuard BinOp.neq 24 o1 o2 Vs Vs).run Tryd.prog w = .ok () w)
    (hqa : ∀ w, (binOp BinOp.eql 24 Va Va).run Tryd.prog w = .ok (.bool true) w) (hga : ∀ o1 o2 w, (eqGuard BinOp.eql 24 o1 o2 Va Va).run Tryd.prog w = .ok () w)
    (hqm : ∀ w, (binOp BinOp.eql 24 Vm Vm).run Tryd.prog w = .ok (.bool true) w) (hgm : ∀ o1 o2 w, (eqGuard BinOp.eql 24 o1 o2 Vm Vm).run Tryd.prog w = .ok () w)
    (hlv : ∀ w, Calls Tryd.prog 19 #[] w fun e w' => e = .returned (.bool true) ∧ Below w.heap.size w w') :
    Calls Tryd.prog 12 #[.agg #[.int .u64 k0, .int .u64 k1, .int .u64 k2, .int .u64 k3], .agg #[.int .u64 a0, .int .u64 a1, .int .u64 a2, .int .u64 a3]] w fun e w' => e = .returned (.bool true) ∧ Below w.heap.size w w' := by
  have Hs0 := Lib.hid hs0; clear hs0
  have Hs1 := Lib.hid hs1; clear hs1
  have Hn1 := Lib.hid hn1; clear hn1
  have Hn2 := Lib.hid hn2; clear hn2
  have Hn3 := Lib.hid hn3; clear hn3
  have Had := Lib.hid had; clear had
  have Hqs := Lib.hid hqs; clear hqs
  have Hgs := Lib.hid hgs; clear hgs
  have Hqa := Lib.hid hqa; clear hqa
  have Hga := Lib.hid hga; clear hga
  have Hqm := Lib.hid hqm; clear hqm
  have Hgm := Lib.hid hgm; clear hgm
  have Hlv := Lib.hid hlv; clear hlv
  have Ek := Lib.hid ek; clear ek
  have Ea := Lib.hid ea; clear ea
  have Es := Lib.hid es; clear es
  have Ex := Lib.hid ex; clear ex
  go_enter Tryd.func12, Tryd.ntmps12
  go_wp2_with fail
  refine (Hs0.out _).mono ?_
  rintro e w1 ⟨rfl, hb⟩
  obtain ⟨kc0, -, -⟩ := after1 (b := w.heap.size) (i := 0) (v := .int .u64 k0) hb (by first | (simp; done) | (simp; omega)) (by go_cell) (by go_cell)
  obtain ⟨kc1, -, -⟩ := after1 (b := w.heap.size) (i := 1) (v := .int .u64 k1) hb (by first | (simp; done) | (simp; omega)) (by go_cell) (by go_cell)
  obtain ⟨kc2, -, -⟩ := after1 (b := w.heap.size) (i := 2) (v := .int .u64 k2) hb (by first | (simp; done) | (simp; omega)) (by go_cell) (by go_cell)
  obtain ⟨kc3, -, -⟩ := after1 (b := w.heap.size) (i := 3) (v := .int .u64 k3) hb (by first | (simp; done) | (simp; omega)) (by go_cell) (by go_cell)
  obtain ⟨ac0, -, -⟩ := after1 (b := w.heap.size + 1) (i := 0) (v := .int .u64 a0) hb (by first | (simp; done) | (simp; omega)) (by go_cell) (by go_cell)
  obtain ⟨ac1, -, -⟩ := after1 (b := w.heap.size + 1) (i := 1) (v := .int .u64 a1) hb (by first | (simp; done) | (simp; omega)) (by go_cell) (by go_cell)
  obtain ⟨ac2, -, -⟩ := after1 (b := w.heap.size + 1) (i := 2) (v := .int .u64 a2) hb (by first | (simp; done) | (simp; omega)) (by go_cell) (by go_cell)
  obtain ⟨ac3, -, -⟩ := after1 (b := w.heap.size + 1) (i := 3) (v := .int .u64 a3) hb (by first | (simp; done) | (simp; omega)) (by go_cell) (by go_cell)
  have z1 : w.heap.size + 1 < w1.heap.size := by have h := hb.size; simp at h; omega
  have hB1 : Below w.heap.size w w1 := Below.trans (by go_grown) (hb.mono (by simp; omega))
  clear hb
  have z2 : w.heap.size < w1.heap.size := by omega
  have hcl : (ClG w w1.heap.size (fun wx => Holds4 (w.heap.size) (.int .u64 k0) (.int .u64 k1) (.int .u64 k2) (.int .u64 k3) wx ∧ Holds4 (w.heap.size + 1) (.int .u64 a0) (.int .u64 a1) (.int .u64 a2) (.int .u64 a3) wx ∧ Holds4 (w1.heap.size) (.int .u64 s0) (.int .u64 s1) (.int .u64 s2) (.int .u64 s3) wx)) (w1.alloc (.cells #[.int .u64 s0, .int .u64 s1, .int .u64 s2, .int .u64 s3] 24)) := ⟨(by go_grown), (by simp), ⟨by go_cell, by go_cell, by go_cell, by go_cell⟩, ⟨by go_cell, by go_cell, by go_cell, by go_cell⟩, ⟨by go_cell, by go_cell, by go_cell, by go_cell⟩⟩
  have hkeep : ∀ wx w', w1.heap.size < wx.heap.size → Below wx.heap.size wx w' → (fun wx => Holds4 (w.heap.size) (.int .u64 k0) (.int .u64 k1) (.int .u64 k2) (.int .u64 k3) wx ∧ Holds4 (w.heap.size + 1) (.int .u64 a0) (.int .u64 a1) (.int .u64 a2) (.int .u64 a3) wx ∧ Holds4 (w1.heap.size) (.int .u64 s0) (.int .u64 s1) (.int .u64 s2) (.int .u64 s3) wx) wx → (fun wx => Holds4 (w.heap.size) (.int .u64 k0) (.int .u64 k1) (.int .u64 k2) (.int .u64 k3) wx ∧ Holds4 (w.heap.size + 1) (.int .u64 a0) (.int .u64 a1) (.int .u64 a2) (.int .u64 a3) wx ∧ Holds4 (w1.heap.size) (.int .u64 s0) (.int .u64 s1) (.int .u64 s2) (.int .u64 s3) wx) w' := fun wx w' ht hb ⟨h1, h2, h3⟩ => ⟨h1.below hb (by omega), h2.below hb (by omega), h3.below hb (by omega)⟩
  have H1 := Lib.hid (fun wx (hC : (ClG w w1.heap.size (fun wx => Holds4 (w.heap.size) (.int .u64 k0) (.int .u64 k1) (.int .u64 k2) (.int .u64 k3) wx ∧ Holds4 (w.heap.size + 1) (.int .u64 a0) (.int .u64 a1) (.int .u64 a2) (.int .u64 a3) wx ∧ Holds4 (w1.heap.size) (.int .u64 s0) (.int .u64 s1) (.int .u64 s2) (.int .u64 s3) wx)) wx) => (show (Instr.loadAt 24 (.pointer (some ⟨w.heap.size, 0, none⟩))).run Tryd.prog wx = .ok Vk wx by rw [Ek.out]; exact load4 _ hC.2.2.1))
  have H2 := Lib.hid (fun wx (hC : (ClG w w1.heap.size (fun wx => Holds4 (w.heap.size) (.int .u64 k0) (.int .u64 k1) (.int .u64 k2) (.int .u64 k3) wx ∧ Holds4 (w.heap.size + 1) (.int .u64 a0) (.int .u64 a1) (.int .u64 a2) (.int .u64 a3) wx ∧ Holds4 (w1.heap.size) (.int .u64 s0) (.int .u64 s1) (.int .u64 s2) (.int .u64 s3) wx)) wx) => (show (Instr.loadAt 24 (.pointer (some ⟨w1.heap.size, 0, none⟩))).run Tryd.prog wx = .ok Vs wx by rw [Es.out]; exact load4 _ hC.2.2.2.2))
  have H3 := Lib.hid (fun wx (hC : (ClG w w1.heap.size (fun wx => Holds4 (w.heap.size) (.int .u64 k0) (.int .u64 k1) (.int .u64 k2) (.int .u64 k3) wx ∧ Holds4 (w.heap.size + 1) (.int .u64 a0) (.int .u64 a1) (.int .u64 a2) (.int .u64 a3) wx ∧ Holds4 (w1.heap.size) (.int .u64 s0) (.int .u64 s1) (.int .u64 s2) (.int .u64 s3) wx)) wx) => (show Calls Tryd.prog 33 #[Vk, Vs] wx fun e w' => e = .returned Vs ∧ (ClG w w1.heap.size (fun wx => Holds4 (w.heap.size) (.int .u64 k0) (.int .u64 k1) (.int .u64 k2) (.int .u64 k3) wx ∧ Holds4 (w.heap.size + 1) (.int .u64 a0) (.int .u64 a1) (.int .u64 a2) (.int .u64 a3) wx ∧ Holds4 (w1.heap.size) (.int .u64 s0) (.int .u64 s1) (.int .u64 s2) (.int .u64 s3) wx)) w' from (Hs1.out wx).mono fun _ _ h => ⟨h.1, hC.below hkeep h.2⟩))
  have HCL := Lib.hid hcl; clear hcl
  have Z1 := Lib.hid z1
  clear hB1 kc0 kc1 kc2 kc3 ac0 ac1 ac2 ac3 z1 z2 hkeep
  go_wp2_with fail
  refine wp_region_quiet (C := (ClG w w1.heap.size (fun wx => Holds4 (w.heap.size) (.int .u64 k0) (.int .u64 k1) (.int .u64 k2) (.int .u64 k3) wx ∧ Holds4 (w.heap.size + 1) (.int .u64 a0) (.int .u64 a1) (.int .u64 a2) (.int .u64 a3) wx ∧ Holds4 (w1.heap.size) (.int .u64 s0) (.int .u64 s1) (.int .u64 s2) (.int .u64 s3) wx))) (by kernel_rfl) (by kernel_rfl) (HCL.out.drew (fun _ h => h)) ?_
  with_reducible refine q_load 24 (.tmp 2) (.pointer (some ⟨w.heap.size, 0, none⟩)) (Vk) rfl (by kernel_rfl) (by kernel_rfl) H1.out ?_
  with_reducible refine q_load 24 (.tmp 5) (.pointer (some ⟨w1.heap.size, 0, none⟩)) (Vs) rfl (by kernel_rfl) (by kernel_rfl) H2.out ?_
  with_reducible refine q_call 33 #[Vk, Vs] (Vs) (by kernel_rfl) (fun _ => by kernel_rfl) H3.out ?_
  with_reducible refine q_load 24 (.tmp 5) (.pointer (some ⟨w1.heap.size, 0, none⟩)) (Vs) rfl (by kernel_rfl) (by kernel_rfl) H2.out ?_
  with_reducible refine q_bin .neq 24 _ _ 24 (Vs) (Vs) (.bool false) rfl (by kernel_rfl) (by kernel_rfl) (by kernel_rfl) (Hgs.out _ _) Hqs.out ?_
  with_reducible refine wpQuiet_nil ?_
  intro w2 hC
  have HX := Lib.hid hC; clear hC HCL H1 H2 H3
  go_simp
  go_wp2
  go_loopw [7] (fun i wr => ∃ n : Nat, n ≤ 32 ∧ i = .int .u64 n ∧ Hid (∃ b0 b1 b2 b3 : Nat, wv (yN x n) = .agg #[.int .u64 b0, .int .u64 b1, .int .u64 b2, .int .u64 b3] ∧ (ClG w w2.heap.size (fun wx => Holds4 (w.heap.size + 1) (.int .u64 a0) (.int .u64 a1) (.int .u64 a2) (.int .u64 a3) wx ∧ (Holds4 (w2.heap.size) (.int .u64 b0) (.int .u64 b1) (.int .u64 b2) (.int .u64 b3) wx ∧ Free4 w2.heap.size wx))) wr)) (fun i _ => 32 - (intOf i).toNat)
  case atStart =>
    refine ⟨0, by omega, rfl, Lib.hid ⟨0, 0, 0, 0, by rw [yN_zero]; exact wv_zero, ?_⟩⟩
    have h := HX.out
    have z1 : w.heap.size + 1 < w2.heap.size := by have := h.2.1; have := Z1.out; omega
    obtain ⟨hB, -, -, ⟨ac0, ac1, ac2, ac3⟩, -⟩ := h
    exact ⟨by go_grown, by simp, ⟨by go_cell, by go_cell, by go_cell, by go_cell⟩, ⟨by go_cell, by go_cell, by go_cell, by go_cell⟩, by go_cell, by go_cell, by go_cell, by go_cell⟩
  case round =>
    obtain ⟨n, hn, rfl, H⟩ := hrel
    have hn0 : (0 : Int) ≤ n := by omega
    have hn1 : (n : Int) ≤ 32 := by omega
    have Z6 := Lib.hid (show w.heap.size + 1 < w2.heap.size by have := HX.out.2.1; have := Z1.out; omega)
    obtain ⟨b0, b1, b2, b3, eb, hC⟩ := H.out
    clear H
    have hkeep : ∀ wx w', w2.heap.size < wx.heap.size → Below wx.heap.size wx w' → (fun wx => Holds4 (w.heap.size + 1) (.int .u64 a0) (.int .u64 a1) (.int .u64 a2) (.int .u64 a3) wx ∧ (Holds4 (w2.heap.size) (.int .u64 b0) (.int .u64 b1) (.int .u64 b2) (.int .u64 b3) wx ∧ Free4 w2.heap.size wx)) wx → (fun wx => Holds4 (w.heap.size + 1) (.int .u64 a0) (.int .u64 a1) (.int .u64 a2) (.int .u64 a3) wx ∧ (Holds4 (w2.heap.size) (.int .u64 b0) (.int .u64 b1) (.int .u64 b2) (.int .u64 b3) wx ∧ Free4 w2.heap.size wx)) w' := fun wx w' ht hb ⟨h1, h2, h3⟩ => ⟨h1.below hb (by have := Z6.out; omega), h2.below hb ht, h3.below hb ht⟩
    have L1 := Lib.hid (fun wx (hC : (ClG w w2.heap.size (fun wx => Holds4 (w.heap.size + 1) (.int .u64 a0) (.int .u64 a1) (.int .u64 a2) (.int .u64 a3) wx ∧ (Holds4 (w2.heap.size) (.int .u64 b0) (.int .u64 b1) (.int .u64 b2) (.int .u64 b3) wx ∧ Free4 w2.heap.size wx))) wx) => (show (Instr.loadAt 24 (.pointer (some ⟨w2.heap.size, 0, none⟩))).run Tryd.prog wx = .ok (wv (yN x n)) wx by rw [eb]; exact load4 _ hC.2.2.2.1))
    have L2 := Lib.hid (fun wx (hC : (ClG w w2.heap.size (fun wx => Holds4 (w.heap.size + 1) (.int .u64 a0) (.int .u64 a1) (.int .u64 a2) (.int .u64 a3) wx ∧ (Holds4 (w2.heap.size) (.int .u64 b0) (.int .u64 b1) (.int .u64 b2) (.int .u64 b3) wx ∧ Free4 w2.heap.size wx))) wx) => (show (Instr.loadAt 24 (.pointer (some ⟨w.heap.size + 1, 0, none⟩))).run Tryd.prog wx = .ok Va wx by rw [Ea.out]; exact load4 _ hC.2.2.1))
    have EB := Lib.hid eb; clear eb
    by_cases hlt : n < 32
    · obtain ⟨c0, c1, c2, c3, -, -, -, -, ec, -⟩ := wv_parts (yN x n * 256 + byteN n x)
      have K1 := Lib.hid (fun wx (hC : (ClG w w2.heap.size (fun wx => Holds4 (w.heap.size + 1) (.int .u64 a0) (.int .u64 a1) (.int .u64 a2) (.int .u64 a3) wx ∧ (Holds4 (w2.heap.size) (.int .u64 b0) (.int .u64 b1) (.int .u64 b2) (.int .u64 b3) wx ∧ Free4 w2.heap.size wx))) wx) => (show Calls Tryd.prog 57 #[.int .u64 256] wx fun e w' => e = .returned (wv 256) ∧ (ClG w w2.heap.size (fun wx => Holds4 (w.heap.size + 1) (.int .u64 a0) (.int .u64 a1) (.int .u64 a2) (.int .u64 a3) wx ∧ (Holds4 (w2.heap.size) (.int .u64 b0) (.int .u64 b1) (.int .u64 b2) (.int .u64 b3) wx ∧ Free4 w2.heap.size wx))) w' from (by rw [wv_small (by omega)]; exact of_walk 256 wx : Calls Tryd.prog 57 #[.int .u64 256] wx fun e w' => e = .returned (wv 256) ∧ Below wx.heap.size wx w').mono fun _ _ h => ⟨h.1, hC.below hkeep h.2⟩))
      have K2 := Lib.hid (fun wx (hC : (ClG w w2.heap.size (fun wx => Holds4 (w.heap.size + 1) (.int .u64 a0) (.int .u64 a1) (.int .u64 a2) (.int .u64 a3) wx ∧ (Holds4 (w2.heap.size) (.int .u64 b0) (.int .u64 b1) (.int .u64 b2) (.int .u64 b3) wx ∧ Free4 w2.heap.size wx))) wx) => (show Calls Tryd.prog 57 #[.int .u64 n] wx fun e w' => e = .returned (wv n) ∧ (ClG w w2.heap.size (fun wx => Holds4 (w.heap.size + 1) (.int .u64 a0) (.int .u64 a1) (.int .u64 a2) (.int .u64 a3) wx ∧ (Holds4 (w2.heap.size) (.int .u64 b0) (.int .u64 b1) (.int .u64 b2) (.int .u64 b3) wx ∧ Free4 w2.heap.size wx))) w' from (by rw [wv_small (by omega)]; exact of_walk n wx : Calls Tryd.prog 57 #[.int .u64 n] wx fun e w' => e = .returned (wv n) ∧ Below wx.heap.size wx w').mono fun _ _ h => ⟨h.1, hC.below hkeep h.2⟩))
      have K3 := Lib.hid (fun wx (hC : (ClG w w2.heap.size (fun wx => Holds4 (w.heap.size + 1) (.int .u64 a0) (.int .u64 a1) (.int .u64 a2) (.int .u64 a3) wx ∧ (Holds4 (w2.heap.size) (.int .u64 b0) (.int .u64 b1) (.int .u64 b2) (.int .u64 b3) wx ∧ Free4 w2.heap.size wx))) wx) => (show Calls Tryd.prog 17 #[wv (yN x n), wv 256] wx fun e w' => e = .returned (wv (yN x n * 256)) ∧ (ClG w w2.heap.size (fun wx => Holds4 (w.heap.size + 1) (.int .u64 a0) (.int .u64 a1) (.int .u64 a2) (.int .u64 a3) wx ∧ (Holds4 (w2.heap.size) (.int .u64 b0) (.int .u64 b1) (.int .u64 b2) (.int .u64 b3) wx ∧ Free4 w2.heap.size wx))) w' from (mul_any _ _ wx).mono fun _ _ h => ⟨h.1, hC.below hkeep h.2⟩))
      have K4 := Lib.hid (fun wx (hC : (ClG w w2.heap.size (fun wx => Holds4 (w.heap.size + 1) (.int .u64 a0) (.int .u64 a1) (.int .u64 a2) (.int .u64 a3) wx ∧ (Holds4 (w2.heap.size) (.int .u64 b0) (.int .u64 b1) (.int .u64 b2) (.int .u64 b3) wx ∧ Free4 w2.heap.size wx))) wx) => (show Calls Tryd.prog 35 #[wv n, Va] wx fun e w' => e = .returned (wv (byteN n x)) ∧ (ClG w w2.heap.size (fun wx => Holds4 (w.heap.size + 1) (.int .u64 a0) (.int .u64 a1) (.int .u64 a2) (.int .u64 a3) wx ∧ (Holds4 (w2.heap.size) (.int .u64 b0) (.int .u64 b1) (.int .u64 b2) (.int .u64 b3) wx ∧ Free4 w2.heap.size wx))) w' from (by rw [← Ex.out]; exact byte_any n x wx : Calls Tryd.prog 35 #[wv n, Va] wx fun e w' => e = .returned (wv (byteN n x)) ∧ Below wx.heap.size wx w').mono fun _ _ h => ⟨h.1, hC.below hkeep h.2⟩))
      have K5 := Lib.hid (fun wx (hC : (ClG w w2.heap.size (fun wx => Holds4 (w.heap.size + 1) (.int .u64 a0) (.int .u64 a1) (.int .u64 a2) (.int .u64 a3) wx ∧ (Holds4 (w2.heap.size) (.int .u64 b0) (.int .u64 b1) (.int .u64 b2) (.int .u64 b3) wx ∧ Free4 w2.heap.size wx))) wx) => (show Calls Tryd.prog 13 #[wv (yN x n * 256), wv (byteN n x)] wx fun e w' => e = .returned (.agg #[.int .u64 c0, .int .u64 c1, .int .u64 c2, .int .u64 c3]) ∧ (ClG w w2.heap.size (fun wx => Holds4 (w.heap.size + 1) (.int .u64 a0) (.int .u64 a1) (.int .u64 a2) (.int .u64 a3) wx ∧ (Holds4 (w2.heap.size) (.int .u64 b0) (.int .u64 b1) (.int .u64 b2) (.int .u64 b3) wx ∧ Free4 w2.heap.size wx))) w' from (by rw [← ec]; exact add_any _ _ wx : Calls Tryd.prog 13 #[wv (yN x n * 256), wv (byteN n x)] wx fun e w' => e = .returned (.agg #[.int .u64 c0, .int .u64 c1, .int .u64 c2, .int .u64 c3]) ∧ Below wx.heap.size wx w').mono fun _ _ h => ⟨h.1, hC.below hkeep h.2⟩))
      have EC := Lib.hid ec; clear ec
      have HCr := Lib.hid hC; clear hC hkeep
      go_wp2_with fail
      refine region_quiet_tail 8 (ClG w w2.heap.size (fun wx => Holds4 (w.heap.size + 1) (.int .u64 a0) (.int .u64 a1) (.int .u64 a2) (.int .u64 a3) wx ∧ (Holds4 (w2.heap.size) (.int .u64 b0) (.int .u64 b1) (.int .u64 b2) (.int .u64 b3) wx ∧ Free4 w2.heap.size wx))) (by kernel_rfl) (by kernel_rfl) (HCr.out.drew (fun _ h => h)) ?_
      simp only [List.take_succ_cons, List.take_zero, List.drop_succ_cons, List.drop_zero]
      with_reducible refine q_load 24 (.tmp 6) (.pointer (some ⟨w2.heap.size, 0, none⟩)) (wv (yN x n)) rfl (by kernel_rfl) (by kernel_rfl) L1.out ?_
      with_reducible refine q_call 57 #[.int .u64 256] (wv 256) (by kernel_rfl) (fun _ => by kernel_rfl) K1.out ?_
      with_reducible refine q_call 17 #[wv (yN x n), wv 256] (wv (yN x n * 256)) (by kernel_rfl) (fun _ => by kernel_rfl) K3.out ?_
      with_reducible refine q_val (.int .u64 n) (by kernel_rfl) (fun _ _ => by kernel_rfl) ?_
      with_reducible refine q_call 57 #[.int .u64 n] (wv n) (by kernel_rfl) (fun _ => by kernel_rfl) K2.out ?_
      with_reducible refine q_load 24 (.tmp 3) (.pointer (some ⟨w.heap.size + 1, 0, none⟩)) (Va) rfl (by kernel_rfl) (by kernel_rfl) L2.out ?_
      with_reducible refine q_call 35 #[wv n, Va] (wv (byteN n x)) (by kernel_rfl) (fun _ => by kernel_rfl) K4.out ?_
      with_reducible refine q_call 13 #[wv (yN x n * 256), wv (byteN n x)] (.agg #[.int .u64 c0, .int .u64 c1, .int .u64 c2, .int .u64 c3]) (by kernel_rfl) (fun _ => by kernel_rfl) K5.out ?_
      with_reducible refine wpQuiet_nil ?_
      intro wx hC
      obtain ⟨hB, ht, ⟨ac0, ac1, ac2, ac3⟩, ⟨q0, q1, q2, q3⟩, f0, f1, f2, f3⟩ := hC
      have hz6 := Z6.out
      go_simp
      go_wp2
      go_roundw
      case rel =>
        refine ⟨n + 1, by omega, by go_num, Lib.hid ⟨c0, c1, c2, c3, by rw [← yN_succ x n hlt]; exact EC.out, ?_⟩⟩
        exact ⟨by go_grown, by simp; omega, ⟨by go_cell, by go_cell, by go_cell, by go_cell⟩, ⟨by go_cell, by go_cell, by go_cell, by go_cell⟩, by go_cell, by go_cell, by go_cell, by go_cell⟩
      case measure => simp [intOf]; omega
    · obtain rfl : n = 32 := by omega
      have L3 := Lib.hid (fun wx (hC : (ClG w w2.heap.size (fun wx => Holds4 (w.heap.size + 1) (.int .u64 a0) (.int .u64 a1) (.int .u64 a2) (.int .u64 a3) wx ∧ (Holds4 (w2.heap.size) (.int .u64 b0) (.int .u64 b1) (.int .u64 b2) (.int .u64 b3) wx ∧ Free4 w2.heap.size wx))) wx) => (show (Instr.loadAt 24 (.pointer (some ⟨w2.heap.size, 0, none⟩))).run Tryd.prog wx = .ok Va wx by rw [← Ex.out, ← yN_full x]; exact L1.out wx hC))
      have K1 := Lib.hid (fun wx (hC : (ClG w w2.heap.size (fun wx => Holds4 (w.heap.size + 1) (.int .u64 a0) (.int .u64 a1) (.int .u64 a2) (.int .u64 a3) wx ∧ (Holds4 (w2.heap.size) (.int .u64 b0) (.int .u64 b1) (.int .u64 b2) (.int .u64 b3) wx ∧ Free4 w2.heap.size wx))) wx) => (show Calls Tryd.prog 43 #[Va] wx fun e w' => e = .returned Vn ∧ (ClG w w2.heap.size (fun wx => Holds4 (w.heap.size + 1) (.int .u64 a0) (.int .u64 a1) (.int .u64 a2) (.int .u64 a3) wx ∧ (Holds4 (w2.heap.size) (.int .u64 b0) (.int .u64 b1) (.int .u64 b2) (.int .u64 b3) wx ∧ Free4 w2.heap.size wx))) w' from (Hn1.out wx).mono fun _ _ h => ⟨h.1, hC.below hkeep h.2⟩))
      have K2 := Lib.hid (fun wx (hC : (ClG w w2.heap.size (fun wx => Holds4 (w.heap.size + 1) (.int .u64 a0) (.int .u64 a1) (.int .u64 a2) (.int .u64 a3) wx ∧ (Holds4 (w2.heap.size) (.int .u64 b0) (.int .u64 b1) (.int .u64 b2) (.int .u64 b3) wx ∧ Free4 w2.heap.size wx))) wx) => (show Calls Tryd.prog 43 #[Vn] wx fun e w' => e = .returned Va ∧ (ClG w w2.heap.size (fun wx => Holds4 (w.heap.size + 1) (.int .u64 a0) (.int .u64 a1) (.int .u64 a2) (.int .u64 a3) wx ∧ (Holds4 (w2.heap.size) (.int .u64 b0) (.int .u64 b1) (.int .u64 b2) (.int .u64 b3) wx ∧ Free4 w2.heap.size wx))) w' from (Hn2.out wx).mono fun _ _ h => ⟨h.1, hC.below hkeep h.2⟩))
      have K3 := Lib.hid (fun wx (hC : (ClG w w2.heap.size (fun wx => Holds4 (w.heap.size + 1) (.int .u64 a0) (.int .u64 a1) (.int .u64 a2) (.int .u64 a3) wx ∧ (Holds4 (w2.heap.size) (.int .u64 b0) (.int .u64 b1) (.int .u64 b2) (.int .u64 b3) wx ∧ Free4 w2.heap.size wx))) wx) => (show Calls Tryd.prog 43 #[.agg #[.int .u64 0, .int .u64 0, .int .u64 0, .int .u64 0]] wx fun e w' => e = .returned Vm ∧ (ClG w w2.heap.size (fun wx => Holds4 (w.heap.size + 1) (.int .u64 a0) (.int .u64 a1) (.int .u64 a2) (.int .u64 a3) wx ∧ (Holds4 (w2.heap.size) (.int .u64 b0) (.int .u64 b1) (.int .u64 b2) (.int .u64 b3) wx ∧ Free4 w2.heap.size wx))) w' from (Hn3.out wx).mono fun _ _ h => ⟨h.1, hC.below hkeep h.2⟩))
      have K4 := Lib.hid (fun wx (hC : (ClG w w2.heap.size (fun wx => Holds4 (w.heap.size + 1) (.int .u64 a0) (.int .u64 a1) (.int .u64 a2) (.int .u64 a3) wx ∧ (Holds4 (w2.heap.size) (.int .u64 b0) (.int .u64 b1) (.int .u64 b2) (.int .u64 b3) wx ∧ Free4 w2.heap.size wx))) wx) => (show Calls Tryd.prog 13 #[Va, Vn] wx fun e w' => e = .returned Vm ∧ (ClG w w2.heap.size (fun wx => Holds4 (w.heap.size + 1) (.int .u64 a0) (.int .u64 a1) (.int .u64 a2) (.int .u64 a3) wx ∧ (Holds4 (w2.heap.size) (.int .u64 b0) (.int .u64 b1) (.int .u64 b2) (.int .u64 b3) wx ∧ Free4 w2.heap.size wx))) w' from (Had.out wx).mono fun _ _ h => ⟨h.1, hC.below hkeep h.2⟩))
      have K5 := Lib.hid (fun wx (hC : (ClG w w2.heap.size (fun wx => Holds4 (w.heap.size + 1) (.int .u64 a0) (.int .u64 a1) (.int .u64 a2) (.int .u64 a3) wx ∧ (Holds4 (w2.heap.size) (.int .u64 b0) (.int .u64 b1) (.int .u64 b2) (.int .u64 b3) wx ∧ Free4 w2.heap.size wx))) wx) => (show Calls Tryd.prog 19 #[] wx fun e w' => e = .returned (.bool true) ∧ (ClG w w2.heap.size (fun wx => Holds4 (w.heap.size + 1) (.int .u64 a0) (.int .u64 a1) (.int .u64 a2) (.int .u64 a3) wx ∧ (Holds4 (w2.heap.size) (.int .u64 b0) (.int .u64 b1) (.int .u64 b2) (.int .u64 b3) wx ∧ Free4 w2.heap.size wx))) w' from (Hlv.out wx).mono fun _ _ h => ⟨h.1, hC.below hkeep h.2⟩))
      have HCr := Lib.hid hC; clear hC hkeep L1
      go_wp2_with fail
      refine wp_region_quiet (C := (ClG w w2.heap.size (fun wx => Holds4 (w.heap.size + 1) (.int .u64 a0) (.int .u64 a1) (.int .u64 a2) (.int .u64 a3) wx ∧ (Holds4 (w2.heap.size) (.int .u64 b0) (.int .u64 b1) (.int .u64 b2) (.int .u64 b3) wx ∧ Free4 w2.heap.size wx)))) (by kernel_rfl) (by kernel_rfl) (HCr.out.drew (fun _ h => h)) ?_
      with_reducible refine q_load 24 (.tmp 6) (.pointer (some ⟨w2.heap.size, 0, none⟩)) (Va) rfl (by kernel_rfl) (by kernel_rfl) L3.out ?_
      with_reducible refine q_load 24 (.tmp 3) (.pointer (some ⟨w.heap.size + 1, 0, none⟩)) (Va) rfl (by kernel_rfl) (by kernel_rfl) L2.out ?_
      with_reducible refine q_bin .eql 24 _ _ 24 (Va) (Va) (.bool true) rfl (by kernel_rfl) (by kernel_rfl) (by kernel_rfl) (Hga.out _ _) Hqa.out ?_
      with_reducible refine q_val (.bool true) (by kernel_rfl) (fun _ _ => by kernel_rfl) ?_
      with_reducible refine q_load 24 (.tmp 3) (.pointer (some ⟨w.heap.size + 1, 0, none⟩)) (Va) rfl (by kernel_rfl) (by kernel_rfl) L2.out ?_
      with_reducible refine q_call 43 #[Va] (Vn) (by kernel_rfl) (fun _ => by kernel_rfl) K1.out ?_
      with_reducible refine q_call 43 #[Vn] (Va) (by kernel_rfl) (fun _ => by kernel_rfl) K2.out ?_
      with_reducible refine q_load 24 (.tmp 3) (.pointer (some ⟨w.heap.size + 1, 0, none⟩)) (Va) rfl (by kernel_rfl) (by kernel_rfl) L2.out ?_
      with_reducible refine q_bin .eql 24 _ _ 24 (Va) (Va) (.bool true) rfl (by kernel_rfl) (by kernel_rfl) (by kernel_rfl) (Hga.out _ _) Hqa.out ?_
      with_reducible refine q_val (.bool true) (by kernel_rfl) (fun _ _ => by kernel_rfl) ?_
      with_reducible refine q_val (.bool true) (by kernel_rfl) (fun _ _ => by kernel_rfl) ?_
      with_reducible refine q_load 24 (.tmp 3) (.pointer (some ⟨w.heap.size + 1, 0, none⟩)) (Va) rfl (by kernel_rfl) (by kernel_rfl) L2.out ?_
      with_reducible refine q_load 24 (.tmp 3) (.pointer (some ⟨w.heap.size + 1, 0, none⟩)) (Va) rfl (by kernel_rfl) (by kernel_rfl) L2.out ?_
      with_reducible refine q_call 43 #[Va] (Vn) (by kernel_rfl) (fun _ => by kernel_rfl) K1.out ?_
      with_reducible refine q_call 13 #[Va, Vn] (Vm) (by kernel_rfl) (fun _ => by kernel_rfl) K4.out ?_
      with_reducible refine q_val (.agg #[.int .u64 0, .int .u64 0, .int .u64 0, .int .u64 0]) (by kernel_rfl) (fun _ _ => by kernel_rfl) ?_
      with_reducible refine q_call 43 #[.agg #[.int .u64 0, .int .u64 0, .int .u64 0, .int .u64 0]] (Vm) (by kernel_rfl) (fun _ => by kernel_rfl) K3.out ?_
      with_reducible refine q_bin .eql 24 _ _ 24 (Vm) (Vm) (.bool true) rfl (by kernel_rfl) (by kernel_rfl) (by kernel_rfl) (Hgm.out _ _) Hqm.out ?_
      with_reducible refine q_val (.bool true) (by kernel_rfl) (fun _ _ => by kernel_rfl) ?_
      with_reducible refine q_val (.bool true) (by kernel_rfl) (fun _ _ => by kernel_rfl) ?_
      with_reducible refine q_call 19 #[] (.bool true) (by kernel_rfl) (fun _ => by kernel_rfl) K5.out ?_
      with_reducible refine q_val (.bool true) (by kernel_rfl) (fun _ _ => by kernel_rfl) ?_
      with_reducible refine q_val (.bool true) (by kernel_rfl) (fun _ _ => by kernel_rfl) ?_
      with_reducible refine wpQuiet_nil ?_
      intro wx hC
      have hB := hC.1
      clear hC
      generalize hA : Act.put _ _ _ = A
      have h6 : A.tmps.getD 4 undef = Value.bool true := by subst hA; kernel_rfl
      have hd : A.defers = [] := by subst hA; kernel_rfl
      clear hA
      go_wp2
      (try simp only [Exit.inBlock, Exit.then])
      refine bodyPost_ret (v := .bool true) (by rw [results_tmp rfl _ _ _, h6]) hd ⟨rfl, hB⟩
end Go.Proofs.YthfadinocadhaaaDoor

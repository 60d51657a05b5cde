/- BLAKE2b: what the reference's Call comes to. -/
import Derived.Test.YtoeomlmnejhgpaaDoorBCall
import Derived.Test.YtoeomlmnejhgpaaDoorBRF
import Derived.Test.YtoeomlmnejhgpaaDoorTie0
namespace Go.Proofs.YtoeomlmnejhgpaaDoor
open Go.RowKit
set_option maxRecDepth 100000 in
set_option maxHeartbeats 2000000 in
theorem rcall_len {n : Nat} {f : Nat → Nat} {v : Value} {w : World} (hn : n ≠ 213) (hP : ArgB w v n f) : Calls Tryd.prog 40 #[v] w fun e w' => e = .returned (.tuple #[.slice none 0 0, .int .i64 4]) ∧ Below w.heap.size w w' := by
  obtain ⟨a, cap, rfl, -, -, -⟩ := hP
  have hn' : ((n : Int) != 213) = true := by rw [bne_iff_ne]; omega
  have hn2 : ¬ (n : Int) = 213 := by omega
  go_enter Tryd.func40, Tryd.ntmps40
  go_wp2_with fail
  go_ret2
  exact ⟨rfl, Below.refl _ _⟩
set_option maxRecDepth 100000 in
set_option maxHeartbeats 2000000 in
theorem rcall_last {f : Nat → Nat} {g o cap : Nat} {w : World} (hr : ∀ j, j < 213 → w.cell? ⟨g, o + j, none⟩ = some (.int .u8 (f j : Nat))) (h1 : 1 < f 212) : Calls Tryd.prog 40 #[.slice (some ⟨g, o, none⟩) 213 cap] w fun e w' => e = .returned (.tuple #[.slice none 0 0, .int .i64 4]) ∧ Below w.heap.size w w' := by
  have c := hr 212 (by omega)
  obtain ⟨x, hx⟩ : ∃ x, f 212 = x := ⟨_, rfl⟩
  rw [hx] at c h1
  have h1' : (1 : Int) < x := by omega
  clear hr hx h1
  go_enter Tryd.func40, Tryd.ntmps40
  go_wp2_with fail
  go_ret2
  exact ⟨rfl, Below.refl _ _⟩
theorem CQ.set0 {w wx : World} {g o : Nat} {f : Nat → Nat} {h m t : Nat → Int} (c : CQ w g o f h m t wx) (j : Nat) (hj : j < 8) (y : Int) : CQ w g o f (updI h j y) m t (wx.setCell ⟨w.heap.size, j, none⟩ (.int .u64 y)) :=
  c.t0 ((Bt.refl _ _).setc _) ((heap_setCell_same _ _ _ _ _ _ c.r0).trans (by rw [ar_set _ _ _ _ _ hj]))
theorem CQ.set1 {w wx : World} {g o : Nat} {f : Nat → Nat} {h m t : Nat → Int} (c : CQ w g o f h m t wx) (j : Nat) (hj : j < 16) (y : Int) : CQ w g o f h (updI m j y) t (wx.setCell ⟨w.heap.size + 1, j, none⟩ (.int .u64 y)) :=
  c.t1 ((Bt.refl _ _).setc _) ((heap_setCell_same _ _ _ _ _ _ c.r1).trans (by rw [ar_set _ _ _ _ _ hj]))
theorem CQ.set2 {w wx : World} {g o : Nat} {f : Nat → Nat} {h m t : Nat → Int} (c : CQ w g o f h m t wx) (j : Nat) (hj : j < 2) (y : Int) : CQ w g o f h m (updI t j y) (wx.setCell ⟨w.heap.size + 1 + 1, j, none⟩ (.int .u64 y)) :=
  c.t2 ((Bt.refl _ _).setc _) ((heap_setCell_same _ _ _ _ _ _ c.r2).trans (by rw [ar_set _ _ _ _ _ hj]))
theorem CQ.row0 {w wx : World} {g o : Nat} {f : Nat → Nat} {h m t : Nat → Int} (c : CQ w g o f h m t wx) (h' : Nat → Int) : CQ w g o f h' m t (wx.setRow w.heap.size (ar .u64 8 h')) := by
  have l := c.high
  have l2 := c.gl
  exact ⟨below_setRow c.old (Nat.le_refl _) _, setRow_heap _ _ _ _ _ _ c.r0, (setRow_other _ _ _ _ (by omega)).trans c.r1, (setRow_other _ _ _ _ (by omega)).trans c.r2, c.gl, fun j hj => (World.cell?_of_block (w := wx) (a := ⟨g, o + j, none⟩) (setRow_other _ _ _ _ (by show g ≠ _; omega))).trans (c.rd j hj)⟩
theorem rd0 (f : Nat → Nat) : rdD f (fun _ => 0) 0 = fun _ => 0 := by funext j; unfold rdD; rw [if_neg (by omega)]
theorem rdnF (f : Nat → Nat) (n : Nat) : ar .u64 n (rdD f (fun _ => 0) n) = ar .u64 n (nums f) := ar_congr fun j hj => by unfold rdD; rw [if_pos hj]
theorem CQ.congr {w wx : World} {g o : Nat} {f : Nat → Nat} {h m t h' m' t' : Nat → Int} (c : CQ w g o f h m t wx) (e0 : ar .u64 8 h = ar .u64 8 h') (e1 : ar .u64 16 m = ar .u64 16 m') (e2 : ar .u64 2 t = ar .u64 2 t') : CQ w g o f h' m' t' wx :=
  ⟨c.old, e0 ▸ c.r0, e1 ▸ c.r1, e2 ▸ c.r2, c.gl, c.rd⟩
/-- The worlds while the two counters are laid. -/
def CY (w : World) (g o : Nat) (f : Nat → Nat) (h m : Nat → Int) (wx : World) : Prop := ∃ t : Nat → Int, CQ w g o f h m t wx
def RY (V : Nat) (A B : Int) (wa wb : World) : Prop := (wa.cell? ⟨V, 0, none⟩ = some (.int .u64 A) → wb.cell? ⟨V, 0, none⟩ = some (.int .u64 A)) ∧ (wa.cell? ⟨V, 1, none⟩ = some (.int .u64 B) → wb.cell? ⟨V, 1, none⟩ = some (.int .u64 B))
theorem RY.refl (V : Nat) (A B : Int) (w : World) : RY V A B w w := ⟨id, id⟩
theorem CY.set {w wx : World} {g o : Nat} {f : Nat → Nat} {h m : Nat → Int} (c : CY w g o f h m wx) (j : Nat) (hj : j < 2) (y : Int) : CY w g o f h m (wx.setCell ⟨w.heap.size + 1 + 1, j, none⟩ (.int .u64 y)) := by
  obtain ⟨t, ht⟩ := c
  exact ⟨_, ht.set2 j hj y⟩
theorem CY.drew {w wx : World} {g o : Nat} {f : Nat → Nat} {h m : Nat → Int} (c : CY w g o f h m wx) : CY w g o f h m wx.drew := by
  obtain ⟨t, ht⟩ := c
  exact ⟨_, ht.drew⟩
theorem CY.store {w wx : World} {g o : Nat} {f : Nat → Nat} {h m : Nat → Int} (c : CY w g o f h m wx) (j : Nat) (hj : j < 2) (y : Int) : (Instr.storeAt 34 (.pointer (some ⟨w.heap.size + 1 + 1, j, none⟩)) (.int .u64 y)).run Tryd.prog wx = .ok () (wx.setCell ⟨w.heap.size + 1 + 1, j, none⟩ (.int .u64 y)) := by
  obtain ⟨t, ht⟩ := c
  exact store_u64 _ _ _ _ _ ((cell_of_row _ _ j _ _ _ ht.r2).trans (ar_at _ _ _ _ hj)) (frozen_of_row _ _ j _ _ ht.r2)
theorem CY.same {w wx : World} {g o : Nat} {f : Nat → Nat} {h m : Nat → Int} (c : CY w g o f h m wx) (j : Nat) (hj : j < 2) (y : Int) : (wx.setCell ⟨w.heap.size + 1 + 1, j, none⟩ (.int .u64 y)).cell? ⟨w.heap.size + 1 + 1, j, none⟩ = some (.int .u64 y) := by
  obtain ⟨t, ht⟩ := c
  exact World.cell?_setCell_same _ _ _ ((cell_of_row _ _ j _ _ _ ht.r2).trans (ar_at _ _ _ _ hj))
theorem r4_four (f : Nat → Nat) : r4 f 4 = ((f 0 * 256 + f 1) * 256 + f 2) * 256 + f 3 := by simp [r4]
theorem or_u32n (a b : Nat) (ha : a < 4294967296) (hb : b < 4294967296) (e : a ||| b = a + b) : bits .or .u32 (a : Int) (b : Int) = ((a + b : Nat) : Int) := by rw [or_u32 a b ha hb, e]
theorem or_hi (u i b : Nat) (hb : b < 2 ^ i) : u * 2 ^ i ||| b = u * 2 ^ i + b := by
  have := Nat.two_pow_add_eq_or_of_lt (b := b) (i := i) hb u
  rw [Nat.mul_comm u, ← this]
theorem ixB (g o L cap j : Nat) (h : j < L) (w : World) : (Instr.indexAt 22 (.slice (some ⟨g, o, none⟩) L cap) (.int .i64 (j : Nat))).run Tryd.prog w = .ok (.pointer (some ⟨g, o + j, none⟩)) w := by
  have h0 : (0 : Int) ≤ j := by omega
  have h1 : (j : Int) < L := by omega
  go_simp
theorem cv32 (x : Nat) (h : x < 256) (w : World) : (convert 5 46 (.int .u8 (x : Nat))).run Tryd.prog w = .ok (.int .u32 (x : Nat)) w := by
  have hcx : IntKind.u32.wrap (x : Int) = (x : Int) := by rw [IntKind.wrap_u32]; omega
  go_simp
theorem sh24 (x : Nat) (h : x < 256) (w : World) : (binOp BinOp.shl 46 (.int .u32 (x : Nat)) (.int .u64 24)).run Tryd.prog w = .ok (.int .u32 ((x * 16777216 : Nat) : Int)) w := by
  have h1 : IntKind.u32.wrap ((x : Int) * 2 ^ 24) = ((x * 16777216 : Nat) : Int) := by rw [IntKind.wrap_u32]; omega
  have h2 : IntKind.u32.wrap ((x : Int) * 16777216) = ((x * 16777216 : Nat) : Int) := by rw [IntKind.wrap_u32]; omega
  obtain ⟨y, hy⟩ : ∃ y : Nat, x * 16777216 = y := ⟨_, rfl⟩
  rw [hy] at h1 h2 ⊢
  go_simp
theorem sh16 (x : Nat) (h : x < 256) (w : World) : (binOp BinOp.shl 46 (.int .u32 (x : Nat)) (.int .u64 16)).run Tryd.prog w = .ok (.int .u32 ((x * 65536 : Nat) : Int)) w := by
  have h1 : IntKind.u32.wrap ((x : Int) * 2 ^ 16) = ((x * 65536 : Nat) : Int) := by rw [IntKind.wrap_u32]; omega
  have h2 : IntKind.u32.wrap ((x : Int) * 65536) = ((x * 65536 : Nat) : Int) := by rw [IntKind.wrap_u32]; omega
  obtain ⟨y, hy⟩ : ∃ y : Nat, x * 65536 = y := ⟨_, rfl⟩
  rw [hy] at h1 h2 ⊢
  go_simp
theorem sh8 (x : Nat) (h : x < 256) (w : World) : (binOp BinOp.shl 46 (.int .u32 (x : Nat)) (.int .u64 8)).run Tryd.prog w = .ok (.int .u32 ((x * 256 : Nat) : Int)) w := by
  have h1 : IntKind.u32.wrap ((x : Int) * 2 ^ 8) = ((x * 256 : Nat) : Int) := by rw [IntKind.wrap_u32]; omega
  have h2 : IntKind.u32.wrap ((x : Int) * 256) = ((x * 256 : Nat) : Int) := by rw [IntKind.wrap_u32]; omega
  obtain ⟨y, hy⟩ : ∃ y : Nat, x * 256 = y := ⟨_, rfl⟩
  rw [hy] at h1 h2 ⊢
  go_simp
theorem or_s (a b c : Nat) (h : bits .or .u32 (a : Int) (b : Int) = (c : Int)) (w : World) : (binOp BinOp.or 46 (.int .u32 (a : Nat)) (.int .u32 (b : Nat))).run Tryd.prog w = .ok (.int .u32 (c : Nat)) w := by
  go_simp
theorem or_1 (a b : Nat) (ha : a < 256) (hb : b < 256) : bits .or .u32 ((a * 16777216 : Nat) : Int) ((b * 65536 : Nat) : Int) = ((a * 16777216 + b * 65536 : Nat) : Int) := or_u32n _ _ (by omega) (by omega) (or_hi a 24 (b * 65536) (by omega))
theorem or_2 (a b c : Nat) (ha : a < 256) (hb : b < 256) (hc : c < 256) : bits .or .u32 ((a * 16777216 + b * 65536 : Nat) : Int) ((c * 256 : Nat) : Int) = ((a * 16777216 + b * 65536 + c * 256 : Nat) : Int) := or_u32n _ _ (by omega) (by omega) (by
  have h := or_hi (a * 256 + b) 16 (c * 256) (by omega)
  rw [show (a * 256 + b) * 2 ^ 16 = a * 16777216 + b * 65536 by omega] at h
  exact h)
theorem or_3 (a b c d : Nat) (ha : a < 256) (hb : b < 256) (hc : c < 256) (hd : d < 256) : bits .or .u32 ((a * 16777216 + b * 65536 + c * 256 : Nat) : Int) (d : Int) = ((((a * 256 + b) * 256 + c) * 256 + d : Nat) : Int) := by
  have h := or_hi (a * 65536 + b * 256 + c) 8 d (by omega)
  rw [show (a * 65536 + b * 256 + c) * 2 ^ 8 = a * 16777216 + b * 65536 + c * 256 by omega] at h
  rw [or_u32n _ _ (by omega) (by omega) h, show a * 16777216 + b * 65536 + c * 256 + d = ((a * 256 + b) * 256 + c) * 256 + d by omega]
theorem own_below {base : Nat} {w w2 w3 : World} {v : Value} {n : Nat} {xs : List Value} {o : Obj} (hown : w2.ownsRow base 5 1 v n xs) (hb : Below base w w2) (hbs : base ≤ w2.heap.size) (hg : (w2.alloc o).grownBy w3 v.ownBlock) : Below base w w3 :=
  (hb.alloc hbs _).grown hg (by simp; omega) (fun j hj => (hown.lt j hj).1)
set_option maxRecDepth 100000 in
set_option maxHeartbeats 8000000 in
-- WHAT THE REFERENCE's Call COMES TO.
theorem rcall_any {f : Nat → Nat} {g o cap : Nat} {w : World} (hf : ∀ j, f j < 256) (hc : 213 ≤ cap) (hgl : g < w.heap.size) (hr : ∀ j, j < 213 → w.cell? ⟨g, o + j, none⟩ = some (.int .u8 (f j : Nat))) (h1 : f 212 ≤ 1) : Calls Tryd.prog 40 #[.slice (some ⟨g, o, none⟩) 213 cap] w fun e w' => ∃ v, e = .returned (.tuple #[v, .int .i64 0]) ∧ ArgB w' v 64 (jb (callV f)) ∧ (∃ g c, v = .slice (some ⟨g, 0, none⟩) 64 c) ∧ Below w.heap.size w w' := by
  have HF := Lib.hid hf; clear hf
  have HC := Lib.hid (And.intro hc (And.intro hgl h1))
  have c := hr 212 (by omega)
  have H0 := Lib.hid (show CQ w g o f (fun _ => 0) (fun _ => 0) (fun _ => 0) (((w.alloc (.cells #[.int .u64 0, .int .u64 0, .int .u64 0, .int .u64 0, .int .u64 0, .int .u64 0, .int .u64 0, .int .u64 0] 54)).alloc (.cells #[.int .u64 0, .int .u64 0, .int .u64 0, .int .u64 0, .int .u64 0, .int .u64 0, .int .u64 0, .int .u64 0, .int .u64 0, .int .u64 0, .int .u64 0, .int .u64 0, .int .u64 0, .int .u64 0, .int .u64 0, .int .u64 0] 55)).alloc (.cells #[.int .u64 0, .int .u64 0] 56)) from by
    have hb : Below w.heap.size w (((w.alloc (.cells #[.int .u64 0, .int .u64 0, .int .u64 0, .int .u64 0, .int .u64 0, .int .u64 0, .int .u64 0, .int .u64 0] 54)).alloc (.cells #[.int .u64 0, .int .u64 0, .int .u64 0, .int .u64 0, .int .u64 0, .int .u64 0, .int .u64 0, .int .u64 0, .int .u64 0, .int .u64 0, .int .u64 0, .int .u64 0, .int .u64 0, .int .u64 0, .int .u64 0, .int .u64 0] 55)).alloc (.cells #[.int .u64 0, .int .u64 0] 56)) := by go_grown
    exact ⟨hb, (heap3 _ _ _ _).1, (heap3 _ _ _ _).2.1, (heap3 _ _ _ _).2.2, hgl, fun j hj => (hb.cell (p := ⟨g, o + j, none⟩) hgl).trans (hr j hj)⟩)
  obtain ⟨x, hx⟩ : ∃ x, f 212 = x := ⟨_, rfl⟩
  rw [hx] at c h1
  have h1' : ¬ (1 : Int) < x := by omega
  have HX := Lib.hid hx
  clear hr hx h1 hgl
  go_enter Tryd.func40, Tryd.ntmps40
  go_wp2_with fail
  obtain ⟨w2, hw2⟩ : ∃ w2, (((w.alloc (.cells #[.int .u64 0, .int .u64 0, .int .u64 0, .int .u64 0, .int .u64 0, .int .u64 0, .int .u64 0, .int .u64 0] 54)).alloc (.cells #[.int .u64 0, .int .u64 0, .int .u64 0, .int .u64 0, .int .u64 0, .int .u64 0, .int .u64 0, .int .u64 0, .int .u64 0, .int .u64 0, .int .u64 0, .int .u64 0, .int .u64 0, .int .u64 0, .int .u64 0, .int .u64 0] 55)).alloc (.cells #[.int .u64 0, .int .u64 0] 56)) = w2 := ⟨_, rfl⟩
  rw [hw2] at H0 ⊢
  clear hw2 c
  go_loopw [7] (fun iv wr => ∃ k : Nat, k ≤ 8 ∧ iv = .int .i64 k ∧ Hid (CQ w g o f (rdD (fun j => f (4 + j)) (fun _ => 0) k) (fun _ => 0) (fun _ => 0) wr)) (fun iv _ => 8 - (intOf iv).toNat)
  case atStart => exact ⟨0, by omega, rfl, by rw [rd0]; exact H0⟩
  case round =>
    obtain ⟨k, hk, rfl, H⟩ := hrel
    clear H0
    have hk0 : (0 : Int) ≤ k := by omega
    by_cases hlt : k < 8
    · have hlt' : (k : Int) < 8 := by omega
      obtain ⟨e8, he8⟩ : ∃ e8 : Nat, 8 * (k : Int) = (e8 : Int) := ⟨8 * k, by omega⟩
      obtain ⟨e, he⟩ : ∃ e : Nat, 4 + (e8 : Int) = (e : Int) := ⟨4 + e8, by omega⟩
      have he80 : (0 : Int) ≤ e8 := by omega
      have he0 : (0 : Int) ≤ e := by omega
      have hew : IntKind.i64.wrap (e8 : Int) = (e8 : Int) := by rw [IntKind.wrap_i64]; omega
      have hew2 : IntKind.i64.wrap (e : Int) = (e : Int) := by rw [IntKind.wrap_i64]; omega
      have hsl := fun w => sl_l (g := g) (o := o) (L := 213) (cap := cap) (l := e) (by omega) (by have := HC.out.1; omega) w
      have HRN := Lib.hid (fun wx (hx : ∀ j, j < 8 → wx.cell? ⟨g, (o + e) + j, none⟩ = some (.int .u8 (f (4 + 8 * k + j) : Nat))) => rnumber_any g (o + e) (213 - e) (cap - e) (by omega) (fun j => f (4 + 8 * k + j)) (fun j => HF.out _) wx hx)
      have HCE := Lib.hid (show ∀ j, j < 8 → wr.cell? ⟨g, (o + e) + j, none⟩ = some (.int .u8 (f (4 + 8 * k + j) : Nat)) from fun j hj => by
        rw [Nat.add_assoc, show 4 + 8 * k + j = e + j by omega]
        exact H.out.rd (e + j) (by omega))
      obtain ⟨og, hog⟩ : ∃ og, o + e = og := ⟨_, rfl⟩
      obtain ⟨L2, hL2⟩ : ∃ L2, 213 - e = L2 := ⟨_, rfl⟩
      obtain ⟨c2, hc2⟩ : ∃ c2, cap - e = c2 := ⟨_, rfl⟩
      rw [hog, hL2, hc2] at hsl
      rw [hog] at HCE
      rw [hog, hL2, hc2] at HRN
      clear hog hL2 hc2
      have co : wr.cell? ⟨w.heap.size, k, none⟩ = some (.int .u64 (rdD (fun j => f (4 + j)) (fun _ => 0) k k)) := (cell_of_row wr _ k _ _ _ H.out.r0).trans (ar_at _ _ _ _ hlt)
      have fo := frozen_of_row wr (w.heap.size) k _ _ H.out.r0
      have HK := Lib.hid hlt
      go_wp2_with fail
      refine (HRN.out wr HCE.out).mono ?_
      rintro ee w5 ⟨rfl, rfl⟩
      rw [show ((n8 (fun j => f (4 + 8 * k + j)) 8 : Nat) : Int) = nums (fun j => f (4 + j)) k from by unfold nums; rw [show (fun i => f (4 + (8 * k + i))) = (fun j => f (4 + 8 * k + j)) from funext fun i => by rw [Nat.add_assoc]]]
      have HS := Lib.hid (H.out.set0 k HK.out (nums (fun j => f (4 + j)) k))
      clear HRN HCE hsl
      go_wp2_with fail
      go_roundw
      case rel =>
        refine ⟨k + 1, by have := HK.out; omega, by go_num, Lib.hid ?_⟩
        rw [show rdD (fun j => f (4 + j)) (fun _ => 0) (k + 1) = updI (rdD (fun j => f (4 + j)) (fun _ => 0) k) k (nums (fun j => f (4 + j)) k) from funext fun i => (rdD_next i).symm]
        exact HS.out
      case measure => have := HK.out; simp [intOf]; omega
    · obtain rfl : k = 8 := by omega
      have hlt' : ¬ ((8 : Nat) : Int) < 8 := by omega
      have H1 := Lib.hid (H.out.congr (rdnF _ 8) rfl rfl)
      clear H hlt hk
      simp only [Int.cast_ofNat_Int]
      go_wp2_with fail
      go_loopw [8] (fun iv wr => ∃ k : Nat, k ≤ 16 ∧ iv = .int .i64 k ∧ Hid (CQ w g o f (nums fun j => f (4 + j)) (rdD (fun j => f (68 + j)) (fun _ => 0) k) (fun _ => 0) wr)) (fun iv _ => 16 - (intOf iv).toNat)
      case atStart => exact ⟨0, by omega, rfl, by rw [rd0]; exact H1⟩
      case round =>
        obtain ⟨k, hk, rfl, H⟩ := hrel
        clear H1
        have hk0 : (0 : Int) ≤ k := by omega
        by_cases hlt : k < 16
        · have hlt2 : (k : Int) < 16 := by omega
          obtain ⟨e8, he8⟩ : ∃ e8 : Nat, 8 * (k : Int) = (e8 : Int) := ⟨8 * k, by omega⟩
          obtain ⟨e, he⟩ : ∃ e : Nat, 68 + (e8 : Int) = (e : Int) := ⟨68 + e8, by omega⟩
          have he80 : (0 : Int) ≤ e8 := by omega
          have he0 : (0 : Int) ≤ e := by omega
          have hew : IntKind.i64.wrap (e8 : Int) = (e8 : Int) := by rw [IntKind.wrap_i64]; omega
          have hew2 : IntKind.i64.wrap (e : Int) = (e : Int) := by rw [IntKind.wrap_i64]; omega
          have hsl := fun w => sl_l (g := g) (o := o) (L := 213) (cap := cap) (l := e) (by omega) (by have := HC.out.1; omega) w
          have HRN := Lib.hid (fun wx (hx : ∀ j, j < 8 → wx.cell? ⟨g, (o + e) + j, none⟩ = some (.int .u8 (f (68 + 8 * k + j) : Nat))) => rnumber_any g (o + e) (213 - e) (cap - e) (by omega) (fun j => f (68 + 8 * k + j)) (fun j => HF.out _) wx hx)
          have HCE := Lib.hid (show ∀ j, j < 8 → wr.cell? ⟨g, (o + e) + j, none⟩ = some (.int .u8 (f (68 + 8 * k + j) : Nat)) from fun j hj => by
            rw [Nat.add_assoc, show 68 + 8 * k + j = e + j by omega]
            exact H.out.rd (e + j) (by omega))
          obtain ⟨og, hog⟩ : ∃ og, o + e = og := ⟨_, rfl⟩
          obtain ⟨L2, hL2⟩ : ∃ L2, 213 - e = L2 := ⟨_, rfl⟩
          obtain ⟨c2, hc2⟩ : ∃ c2, cap - e = c2 := ⟨_, rfl⟩
          rw [hog, hL2, hc2] at hsl
          rw [hog] at HCE
          rw [hog, hL2, hc2] at HRN
          clear hog hL2 hc2
          have co : wr.cell? ⟨w.heap.size + 1, k, none⟩ = some (.int .u64 (rdD (fun j => f (68 + j)) (fun _ => 0) k k)) := (cell_of_row wr _ k _ _ _ H.out.r1).trans (ar_at _ _ _ _ hlt)
          have fo := frozen_of_row wr (w.heap.size + 1) k _ _ H.out.r1
          have HK := Lib.hid hlt
          go_wp2_with fail
          refine (HRN.out wr HCE.out).mono ?_
          rintro ee w5 ⟨rfl, rfl⟩
          rw [show ((n8 (fun j => f (68 + 8 * k + j)) 8 : Nat) : Int) = nums (fun j => f (68 + j)) k from by unfold nums; rw [show (fun i => f (68 + (8 * k + i))) = (fun j => f (68 + 8 * k + j)) from funext fun i => by rw [Nat.add_assoc]]]
          have HS := Lib.hid (H.out.set1 k HK.out (nums (fun j => f (68 + j)) k))
          clear HRN HCE hsl
          go_wp2_with fail
          go_roundw
          case rel =>
            refine ⟨k + 1, by have := HK.out; omega, by go_num, Lib.hid ?_⟩
            rw [show rdD (fun j => f (68 + j)) (fun _ => 0) (k + 1) = updI (rdD (fun j => f (68 + j)) (fun _ => 0) k) k (nums (fun j => f (68 + j)) k) from funext fun i => (rdD_next i).symm]
            exact HS.out
          case measure => have := HK.out; simp [intOf]; omega
        · obtain rfl : k = 16 := by omega
          have hlt2 : ¬ ((16 : Nat) : Int) < 16 := by omega
          have H2 := Lib.hid (H.out.congr rfl (rdnF _ 16) rfl)
          clear H hlt hk
          simp only [Int.cast_ofNat_Int]
          obtain ⟨h, hh⟩ : ∃ h, (nums fun j => f (4 + j)) = h := ⟨_, rfl⟩
          obtain ⟨m, hm⟩ : ∃ m, (nums fun j => f (68 + j)) = m := ⟨_, rfl⟩
          rw [hh, hm] at H2
          have HHM := Lib.hid (And.intro hh hm)
          clear hh hm
          go_wp2_with fail
          have HN0 := Lib.hid (show ∀ wx, CY w g o f h m wx → Calls Tryd.prog 74 #[.slice (some ⟨g, o + 196, none⟩) (213 - 196) (cap - 196)] wx (fun e w' => e = .returned (.int .u64 (nums (fun j => f (196 + j)) 0)) ∧ w' = wx) from fun wx hx => by
            obtain ⟨t, c⟩ := hx
            refine (rnumber_any g (o + 196) (213 - 196) (cap - 196) (by omega) (fun j => f (196 + (8 * 0 + j))) (fun j => HF.out _) wx (fun j hj => ?_)).mono fun e w' hh => ⟨hh.1, hh.2.symm⟩
            rw [Nat.add_assoc, show 196 + (8 * 0 + j) = 196 + j by omega]
            exact c.rd (196 + j) (by omega))
          have HN1 := Lib.hid (show ∀ wx, CY w g o f h m wx → Calls Tryd.prog 74 #[.slice (some ⟨g, o + 204, none⟩) (213 - 204) (cap - 204)] wx (fun e w' => e = .returned (.int .u64 (nums (fun j => f (196 + j)) 1)) ∧ w' = wx) from fun wx hx => by
            obtain ⟨t, c⟩ := hx
            refine (rnumber_any g (o + 204) (213 - 204) (cap - 204) (by omega) (fun j => f (196 + (8 * 1 + j))) (fun j => HF.out _) wx (fun j hj => ?_)).mono fun e w' hh => ⟨hh.1, hh.2.symm⟩
            rw [Nat.add_assoc, show 196 + (8 * 1 + j) = 204 + j by omega]
            exact c.rd (204 + j) (by omega))
          obtain ⟨t, ht⟩ : ∃ t, (nums fun j => f (196 + j)) = t := ⟨_, rfl⟩
          rw [ht] at HN0 HN1
          have HT := Lib.hid ht
          clear ht
          have HSL := Lib.hid (show ∀ l : Nat, l ≤ 213 → l < 213 → ∀ wx : World, (Instr.sliceAt 22 (.slice (some ⟨g, o, none⟩) 213 cap) (some (.int .i64 (l : Int))) none none).run Tryd.prog wx = .ok (.slice (some ⟨g, o + l, none⟩) (213 - l) (cap - l)) wx from fun l h1 h2 wx => sl_l h1 (by have := HC.out.1; omega) wx)
          have H2Y := Lib.hid (show CY w g o f h m wr from ⟨_, H2.out⟩)
          clear H2
          refine region_tie (CY w g o f h m) (fun i s wx => match i with | 0 => s 48 = (.slice (some ⟨g, o, none⟩) 213 cap) | 1 => s 49 = (.slice (some ⟨g, o + 196, none⟩) (213 - 196) (cap - 196)) | 2 => s 50 = .int .u64 (t 0) | 3 => s 51 = (.slice (some ⟨g, o, none⟩) 213 cap) | 4 => s 52 = (.slice (some ⟨g, o + 204, none⟩) (213 - 204) (cap - 204)) | 5 => s 53 = .int .u64 (t 1) | 6 => s 54 = (.pointer (some ⟨w.heap.size + 1 + 1, 0, none⟩)) | 7 => wx.cell? ⟨w.heap.size + 1 + 1, 0, none⟩ = some (.int .u64 (t 0)) | 8 => s 55 = (.pointer (some ⟨w.heap.size + 1 + 1, 1, none⟩)) | 9 => wx.cell? ⟨w.heap.size + 1 + 1, 1, none⟩ = some (.int .u64 (t 1)) | _ => True) (RY (w.heap.size + 1 + 1) (t 0) (t 1)) (fun i => match i with | 0 => [48] | 1 => [49] | 2 => [50] | 3 => [51] | 4 => [52] | 5 => [53] | 6 => [54] | 7 => [] | 8 => [55] | 9 => [] | _ => []) (fun i => i) (by kernel_rfl) (by kernel_rfl) (CY.drew H2Y.out) ?_ ?_ ?_ ?_
          · intro i s s' wx he hp
            match i, he, hp with
            | 0, he, hp => exact (he 48 (by simp)).symm.trans hp
            | 1, he, hp => exact (he 49 (by simp)).symm.trans hp
            | 2, he, hp => exact (he 50 (by simp)).symm.trans hp
            | 3, he, hp => exact (he 51 (by simp)).symm.trans hp
            | 4, he, hp => exact (he 52 (by simp)).symm.trans hp
            | 5, he, hp => exact (he 53 (by simp)).symm.trans hp
            | 6, he, hp => exact (he 54 (by simp)).symm.trans hp
            | 7, he, hp => exact hp
            | 8, he, hp => exact (he 55 (by simp)).symm.trans hp
            | 9, he, hp => exact hp
            | _ + 10, _, _ => trivial
          · intro i s wa wb hR hp
            match i, hp with
            | 0, hp => exact hp
            | 1, hp => exact hp
            | 2, hp => exact hp
            | 3, hp => exact hp
            | 4, hp => exact hp
            | 5, hp => exact hp
            | 6, hp => exact hp
            | 7, hp => exact hR.1 hp
            | 8, hp => exact hp
            | 9, hp => exact hR.2 hp
            | _ + 10, _ => trivial
          · refine ⟨?_, ?_, ?_, ?_, ?_, ?_, ?_, ?_, ?_, ?_, trivial⟩
            · intro a wx hC hsz hK
              have h0 : a.tmps.getD 0 undef = (.slice (some ⟨g, o, none⟩) 213 cap) := hK.1 0 (by kernel_rfl)
              exact tt_val ((.slice (some ⟨g, o, none⟩) 213 cap)) (by kernel_rfl) (by rw [← h0]; kernel_rfl) hC (slots_put _ _ _ (by rw [hsz]; exact of_decide_eq_true (by kernel_rfl))) (RY.refl _ _ _ _)
            · intro a wx hC hsz hK
              have h0 : a.tmps.getD 48 undef = (.slice (some ⟨g, o, none⟩) 213 cap) := hK.2 ⟨0, .data⟩ (by simp) rfl _ rfl
              refine tt_v (Instr.sliceAt 22 (a.tmps.getD 48 undef) (some (.int .i64 (196 : Nat))) none none) ((.slice (some ⟨g, o + 196, none⟩) (213 - 196) (cap - 196))) (by kernel_rfl) (by kernel_rfl) ?_ hC (slots_put _ _ _ (by rw [hsz]; exact of_decide_eq_true (by kernel_rfl))) (RY.refl _ _ _ _)
              rw [h0]
              exact HSL.out 196 (by omega) (by omega) wx
            · intro a wx hC hsz hK
              have h0 : a.tmps.getD 49 undef = (.slice (some ⟨g, o + 196, none⟩) (213 - 196) (cap - 196)) := hK.2 ⟨1, .data⟩ (by simp) rfl _ rfl
              refine tt_call 74 #[a.tmps.getD 49 undef] (by kernel_rfl) (by kernel_rfl) ?_
              rw [h0]
              exact (HN0.out wx hC).mono fun e w' hh => ⟨_, hh.1, by rw [hh.2]; exact hC, (slots_put _ _ _ (by rw [hsz]; exact of_decide_eq_true (by kernel_rfl))), by rw [hh.2]; exact RY.refl _ _ _ _⟩
            · intro a wx hC hsz hK
              have h0 : a.tmps.getD 0 undef = (.slice (some ⟨g, o, none⟩) 213 cap) := hK.1 0 (by kernel_rfl)
              exact tt_val ((.slice (some ⟨g, o, none⟩) 213 cap)) (by kernel_rfl) (by rw [← h0]; kernel_rfl) hC (slots_put _ _ _ (by rw [hsz]; exact of_decide_eq_true (by kernel_rfl))) (RY.refl _ _ _ _)
            · intro a wx hC hsz hK
              have h0 : a.tmps.getD 51 undef = (.slice (some ⟨g, o, none⟩) 213 cap) := hK.2 ⟨3, .data⟩ (by simp) rfl _ rfl
              refine tt_v (Instr.sliceAt 22 (a.tmps.getD 51 undef) (some (.int .i64 (204 : Nat))) none none) ((.slice (some ⟨g, o + 204, none⟩) (213 - 204) (cap - 204))) (by kernel_rfl) (by kernel_rfl) ?_ hC (slots_put _ _ _ (by rw [hsz]; exact of_decide_eq_true (by kernel_rfl))) (RY.refl _ _ _ _)
              rw [h0]
              exact HSL.out 204 (by omega) (by omega) wx
            · intro a wx hC hsz hK
              have h0 : a.tmps.getD 52 undef = (.slice (some ⟨g, o + 204, none⟩) (213 - 204) (cap - 204)) := hK.2 ⟨4, .data⟩ (by simp) rfl _ rfl
              refine tt_call 74 #[a.tmps.getD 52 undef] (by kernel_rfl) (by kernel_rfl) ?_
              rw [h0]
              exact (HN1.out wx hC).mono fun e w' hh => ⟨_, hh.1, by rw [hh.2]; exact hC, (slots_put _ _ _ (by rw [hsz]; exact of_decide_eq_true (by kernel_rfl))), by rw [hh.2]; exact RY.refl _ _ _ _⟩
            · intro a wx hC hsz hK
              have h0 : a.tmps.getD 6 undef = (.pointer (some ⟨w.heap.size + 1 + 1, 0, none⟩)) := hK.1 6 (by kernel_rfl)
              refine tt_v (Instr.indexAt 56 (a.tmps.getD 6 undef) (.int .i64 (0 : Nat))) ((.pointer (some ⟨w.heap.size + 1 + 1, 0, none⟩))) (by kernel_rfl) (by kernel_rfl) ?_ hC (slots_put _ _ _ (by rw [hsz]; exact of_decide_eq_true (by kernel_rfl))) (RY.refl _ _ _ _)
              rw [h0]
              exact at2 _ 0 (by omega) wx
            · intro a wx hC hsz hK
              have h0 : a.tmps.getD 54 undef = (.pointer (some ⟨w.heap.size + 1 + 1, 0, none⟩)) := hK.2 ⟨6, .data⟩ (by simp) rfl _ rfl
              have h1 : a.tmps.getD 50 undef = (.int .u64 (t 0)) := hK.2 ⟨2, .data⟩ (by simp) rfl _ rfl
              exact tt_store (by kernel_rfl) rfl (run_st 34 (.tmp 54) (.tmp 50) _ _ rfl h0 h1 (hC.store 0 (by omega) _)) (hC.set 0 (by omega) _) (hC.same 0 (by omega) _) ⟨fun _ => hC.same 0 (by omega) _, fun h9 => far_cell h9 (by omega)⟩
            · intro a wx hC hsz hK
              have h0 : a.tmps.getD 6 undef = (.pointer (some ⟨w.heap.size + 1 + 1, 0, none⟩)) := hK.1 6 (by kernel_rfl)
              refine tt_v (Instr.indexAt 56 (a.tmps.getD 6 undef) (.int .i64 (1 : Nat))) ((.pointer (some ⟨w.heap.size + 1 + 1, 1, none⟩))) (by kernel_rfl) (by kernel_rfl) ?_ hC (slots_put _ _ _ (by rw [hsz]; exact of_decide_eq_true (by kernel_rfl))) (RY.refl _ _ _ _)
              rw [h0]
              exact at2 _ 1 (by omega) wx
            · intro a wx hC hsz hK
              have h0 : a.tmps.getD 55 undef = (.pointer (some ⟨w.heap.size + 1 + 1, 1, none⟩)) := hK.2 ⟨8, .data⟩ (by simp) rfl _ rfl
              have h1 : a.tmps.getD 53 undef = (.int .u64 (t 1)) := hK.2 ⟨5, .data⟩ (by simp) rfl _ rfl
              exact tt_store (by kernel_rfl) rfl (run_st 34 (.tmp 55) (.tmp 53) _ _ rfl h0 h1 (hC.store 1 (by omega) _)) (hC.set 1 (by omega) _) (hC.same 1 (by omega) _) ⟨fun h9 => far_cell h9 (by omega), fun _ => hC.same 1 (by omega) _⟩
          intro f1 wy hCy hf1
          have ka := hf1 7 _ rfl
          have kb := hf1 9 _ rfl
          have H3 := Lib.hid (show CQ w g o f h m t wy from by
            obtain ⟨t', hc⟩ := hCy
            have ga : t' 0 = t 0 := by have := ((cell_of_row _ _ 0 _ _ _ hc.r2).trans (ar_at _ _ _ _ (by omega))).symm.trans ka; injection this with this; injection this
            have gb : t' 1 = t 1 := by have := ((cell_of_row _ _ 1 _ _ _ hc.r2).trans (ar_at _ _ _ _ (by omega))).symm.trans kb; injection this with this; injection this
            refine hc.congr rfl rfl (ar_congr fun i hi => ?_)
            have : i = 0 ∨ i = 1 := by omega
            rcases this with rfl | rfl
            · exact ga
            · exact gb)
          clear hCy hf1 ka kb H2Y HN0 HN1
          simp only [putAll, Act.put, List.setIfInBounds_toArray, List.set_cons_succ, List.set_cons_zero]
          go_wp2_with fail
          refine wp_region_quiet (C := CQ w g o f h m t) (by kernel_rfl) (by kernel_rfl) (H3.out.drew) ?_
          simp only
          with_reducible refine q_val (.slice (some ⟨g, o, none⟩) 213 cap) (by kernel_rfl) (fun _ _ => by kernel_rfl) ?_
          with_reducible refine q_sem2 (Instr.indexAt 22 (.slice (some ⟨g, o, none⟩) 213 cap) (.int .i64 (0 : Nat))) (.pointer (some ⟨g, o + 0, none⟩)) (by kernel_rfl) (by kernel_rfl) (fun w' _ => ixB g o 213 cap 0 (by omega) w') ?_
          with_reducible refine q_load 5 (.tmp 57) (.pointer (some ⟨g, o + 0, none⟩)) (.int .u8 (f 0 : Nat)) rfl (by kernel_rfl) (by kernel_rfl) (fun _ c => (by exact load_u8 _ _ _ _ (c.rd 0 (by omega)))) ?_
          with_reducible refine q_sem2 (convert 5 46 (.int .u8 (f 0 : Nat))) (.int .u32 (f 0 : Nat)) (by kernel_rfl) (by kernel_rfl) (fun w' _ => cv32 _ (HF.out _) w') ?_
          with_reducible refine q_bin .shl 46 (.tmp 59) _ 52 (.int .u32 (f 0 : Nat)) (.int .u64 24) (.int .u32 ((f 0 * 16777216 : Nat) : Int)) rfl (by kernel_rfl) (by kernel_rfl) (by kernel_rfl) (fun _ => by kernel_rfl) (fun w' => sh24 _ (HF.out _) w') ?_
          with_reducible refine q_val (.slice (some ⟨g, o, none⟩) 213 cap) (by kernel_rfl) (fun _ _ => by kernel_rfl) ?_
          with_reducible refine q_sem2 (Instr.indexAt 22 (.slice (some ⟨g, o, none⟩) 213 cap) (.int .i64 (1 : Nat))) (.pointer (some ⟨g, o + 1, none⟩)) (by kernel_rfl) (by kernel_rfl) (fun w' _ => ixB g o 213 cap 1 (by omega) w') ?_
          with_reducible refine q_load 5 (.tmp 62) (.pointer (some ⟨g, o + 1, none⟩)) (.int .u8 (f 1 : Nat)) rfl (by kernel_rfl) (by kernel_rfl) (fun _ c => (by exact load_u8 _ _ _ _ (c.rd 1 (by omega)))) ?_
          with_reducible refine q_sem2 (convert 5 46 (.int .u8 (f 1 : Nat))) (.int .u32 (f 1 : Nat)) (by kernel_rfl) (by kernel_rfl) (fun w' _ => cv32 _ (HF.out _) w') ?_
          with_reducible refine q_bin .shl 46 (.tmp 64) _ 52 (.int .u32 (f 1 : Nat)) (.int .u64 16) (.int .u32 ((f 1 * 65536 : Nat) : Int)) rfl (by kernel_rfl) (by kernel_rfl) (by kernel_rfl) (fun _ => by kernel_rfl) (fun w' => sh16 _ (HF.out _) w') ?_
          with_reducible refine q_bin .or 46 (.tmp 60) (.tmp 65) 46 (.int .u32 ((f 0 * 16777216 : Nat) : Int)) (.int .u32 ((f 1 * 65536 : Nat) : Int)) (.int .u32 ((f 0 * 16777216 + f 1 * 65536 : Nat) : Int)) rfl (by kernel_rfl) (by kernel_rfl) (by kernel_rfl) (fun _ => by kernel_rfl) (fun w' => or_s _ _ _ (or_1 _ _ (HF.out _) (HF.out _)) w') ?_
          with_reducible refine q_val (.slice (some ⟨g, o, none⟩) 213 cap) (by kernel_rfl) (fun _ _ => by kernel_rfl) ?_
          with_reducible refine q_sem2 (Instr.indexAt 22 (.slice (some ⟨g, o, none⟩) 213 cap) (.int .i64 (2 : Nat))) (.pointer (some ⟨g, o + 2, none⟩)) (by kernel_rfl) (by kernel_rfl) (fun w' _ => ixB g o 213 cap 2 (by omega) w') ?_
          with_reducible refine q_load 5 (.tmp 68) (.pointer (some ⟨g, o + 2, none⟩)) (.int .u8 (f 2 : Nat)) rfl (by kernel_rfl) (by kernel_rfl) (fun _ c => (by exact load_u8 _ _ _ _ (c.rd 2 (by omega)))) ?_
          with_reducible refine q_sem2 (convert 5 46 (.int .u8 (f 2 : Nat))) (.int .u32 (f 2 : Nat)) (by kernel_rfl) (by kernel_rfl) (fun w' _ => cv32 _ (HF.out _) w') ?_
          with_reducible refine q_bin .shl 46 (.tmp 70) _ 52 (.int .u32 (f 2 : Nat)) (.int .u64 8) (.int .u32 ((f 2 * 256 : Nat) : Int)) rfl (by kernel_rfl) (by kernel_rfl) (by kernel_rfl) (fun _ => by kernel_rfl) (fun w' => sh8 _ (HF.out _) w') ?_
          with_reducible refine q_bin .or 46 (.tmp 66) (.tmp 71) 46 (.int .u32 ((f 0 * 16777216 + f 1 * 65536 : Nat) : Int)) (.int .u32 ((f 2 * 256 : Nat) : Int)) (.int .u32 ((f 0 * 16777216 + f 1 * 65536 + f 2 * 256 : Nat) : Int)) rfl (by kernel_rfl) (by kernel_rfl) (by kernel_rfl) (fun _ => by kernel_rfl) (fun w' => or_s _ _ _ (or_2 _ _ _ (HF.out _) (HF.out _) (HF.out _)) w') ?_
          with_reducible refine q_val (.slice (some ⟨g, o, none⟩) 213 cap) (by kernel_rfl) (fun _ _ => by kernel_rfl) ?_
          with_reducible refine q_sem2 (Instr.indexAt 22 (.slice (some ⟨g, o, none⟩) 213 cap) (.int .i64 (3 : Nat))) (.pointer (some ⟨g, o + 3, none⟩)) (by kernel_rfl) (by kernel_rfl) (fun w' _ => ixB g o 213 cap 3 (by omega) w') ?_
          with_reducible refine q_load 5 (.tmp 74) (.pointer (some ⟨g, o + 3, none⟩)) (.int .u8 (f 3 : Nat)) rfl (by kernel_rfl) (by kernel_rfl) (fun _ c => (by exact load_u8 _ _ _ _ (c.rd 3 (by omega)))) ?_
          with_reducible refine q_sem2 (convert 5 46 (.int .u8 (f 3 : Nat))) (.int .u32 (f 3 : Nat)) (by kernel_rfl) (by kernel_rfl) (fun w' _ => cv32 _ (HF.out _) w') ?_
          with_reducible refine q_bin .or 46 (.tmp 72) (.tmp 76) 46 (.int .u32 ((f 0 * 16777216 + f 1 * 65536 + f 2 * 256 : Nat) : Int)) (.int .u32 (f 3 : Nat)) (.int .u32 (r4 f 4 : Nat)) rfl (by kernel_rfl) (by kernel_rfl) (by kernel_rfl) (fun _ => by kernel_rfl) (fun w' => or_s _ _ _ ((or_3 _ _ _ _ (HF.out _) (HF.out _) (HF.out _) (HF.out _)).trans (by rw [r4_four])) w') ?_
          with_reducible refine q_val (.int .u32 (r4 f 4 : Nat)) (by kernel_rfl) (fun _ _ => by kernel_rfl) ?_
          with_reducible refine wpQuiet_nil ?_
          intro wx hC
          have H3b := Lib.hid hC
          clear hC H3
          simp only [Act.put, List.setIfInBounds_toArray, List.set_cons_succ, List.set_cons_zero]
          have HBF := Lib.hid (show ∀ wx, CQ w g o f h m t wx → Calls Tryd.prog 37 #[.int .u32 (r4 f 4 : Nat), .agg (ar .u64 8 h), .agg (ar .u64 16 m), .agg (ar .u64 2 t), .bool (decide (x = 1))] wx (fun e w' => e = .returned (.agg (ar .u64 8 (callV f))) ∧ CQ w g o f h m t w') from fun wx c => (brf_any (r4 f 4) h m t (decide (x = 1)) (r4_lt HF.out 4) wx).mono fun e w' hh => ⟨by rw [hh.1, ← HX.out, ← HHM.out.1, ← HHM.out.2, ← HT.out]; rfl, c.below hh.2⟩)
          have HRG := Lib.hid (callV_range f)
          obtain ⟨ro, hro⟩ : ∃ ro, callV f = ro := ⟨_, rfl⟩
          rw [hro] at HBF HRG
          have HRO := Lib.hid hro
          obtain ⟨rr, hrr⟩ : ∃ rr, r4 f 4 = rr := ⟨_, rfl⟩
          rw [hrr] at HBF ⊢
          clear hro hrr
          go_wp2_with fail
          refine region_quiet_tail 9 (CQ w g o f h m t) (by kernel_rfl) (by kernel_rfl) (H3b.out.drew) ?_
          simp only [List.take_succ_cons, List.take_zero, List.drop_succ_cons, List.drop_zero]
          with_reducible refine q_val (.int .u32 (rr : Nat)) (by kernel_rfl) (fun _ _ => by kernel_rfl) ?_
          with_reducible refine q_load 54 (.tmp 4) (.pointer (some ⟨w.heap.size, 0, none⟩)) (.agg (ar .u64 8 h)) rfl (by kernel_rfl) (by kernel_rfl) (fun _ c => (by exact load_8r c.r0)) ?_
          with_reducible refine q_load 55 (.tmp 5) (.pointer (some ⟨w.heap.size + 1, 0, none⟩)) (.agg (ar .u64 16 m)) rfl (by kernel_rfl) (by kernel_rfl) (fun _ c => (by exact load_16u c.r1)) ?_
          with_reducible refine q_load 56 (.tmp 6) (.pointer (some ⟨w.heap.size + 1 + 1, 0, none⟩)) (.agg (ar .u64 2 t)) rfl (by kernel_rfl) (by kernel_rfl) (fun _ c => (by exact load_2u c.r2)) ?_
          with_reducible refine q_val (.slice (some ⟨g, o, none⟩) 213 cap) (by kernel_rfl) (fun _ _ => by kernel_rfl) ?_
          with_reducible refine q_sem2 (Instr.indexAt 22 (.slice (some ⟨g, o, none⟩) 213 cap) (.int .i64 (212 : Nat))) (.pointer (some ⟨g, o + 212, none⟩)) (by kernel_rfl) (by kernel_rfl) (fun w' _ => ixB g o 213 cap 212 (by omega) w') ?_
          with_reducible refine q_load 5 (.tmp 83) (.pointer (some ⟨g, o + 212, none⟩)) (.int .u8 (x : Nat)) rfl (by kernel_rfl) (by kernel_rfl) (fun _ c => (by exact load_u8 _ _ _ _ ((c.rd 212 (by omega)).trans (by rw [HX.out])))) ?_
          with_reducible refine q_bin .eql 5 _ _ 5 (.int .u8 (x : Nat)) (.int .u8 1) (.bool (decide (x = 1))) rfl (by kernel_rfl) (by kernel_rfl) (by kernel_rfl) (fun _ => by kernel_rfl) (fun w' => eql_u8 x w') ?_
          with_reducible refine q_call 37 #[.int .u32 (rr : Nat), .agg (ar .u64 8 h), .agg (ar .u64 16 m), .agg (ar .u64 2 t), .bool (decide (x = 1))] (.agg (ar .u64 8 ro)) (by kernel_rfl) (fun _ => by kernel_rfl) (HBF.out) ?_
          with_reducible refine wpQuiet_nil ?_
          intro wx hC
          have HG := Lib.hid hC
          clear hC H3b
          simp only [Act.put, List.setIfInBounds_toArray, List.set_cons_succ, List.set_cons_zero]
          go_wp2_with (refine wpList_store_row rfl 54 _ _ rfl w.heap.size (ar .u64 8 ro) rfl rfl 54 (ar .u64 8 h) (by exact HG.out.r0) (by rw [ar_size]; exact info8u) (by simp only [ar_size]) (ar_one _ _ _) ?_)
          have HW := Lib.hid (HG.out.row0 ro)
          obtain ⟨w0, hw0⟩ : ∃ w0, wx.setRow w.heap.size (ar .u64 8 ro) = w0 := ⟨_, rfl⟩
          have hsz0 : w0.heap.size = wx.heap.size := by rw [← hw0]; simp
          rw [hw0] at HW ⊢
          clear hw0 HG HBF
          obtain ⟨i0, hi, hz0, hz1, hz2⟩ := info_partsB info8
          have hmade := World.ownsRow_made (base := w0.heap.size) (e := 5) (size := 1) w0 #[] 0 (by simp) (by decide) (by simp)
          have HQ := Lib.hid (show Own8 w0.heap.size (jb ro) 0 (.slice (some ⟨w0.heap.size, 0, none⟩) 0 0) (w0.alloc (.cells #[] 5)) ∧ Below w0.heap.size w0 (w0.alloc (.cells #[] 5)) from ⟨by simpa [Own8, p8] using hmade, (Below.refl _ _).alloc (Nat.le_refl _) _⟩)
          clear hmade
          replace HQ : Hid (Own8 w0.heap.size (jb ro) 0 (.slice (some ⟨wx.heap.size, 0, none⟩) 0 0) (w0.alloc (.cells #[] 5)) ∧ Below w0.heap.size w0 (w0.alloc (.cells #[] 5))) := by rw [← hsz0]; exact HQ
          clear hsz0
          go_wp2_with fail
          go_loopw [10, 11] (fun v i wr => ∃ k : Nat, k ≤ 64 ∧ i = .int .i64 k ∧ (∃ g q, v = .slice (some ⟨g, 0, none⟩) k q) ∧ Hid (Own8 w0.heap.size (jb ro) k v wr ∧ Below w0.heap.size w0 wr)) (fun _ i _ => 64 - (intOf i).toNat)
          case atStart => exact ⟨0, by omega, rfl, ⟨_, _, rfl⟩, HQ⟩
          case round =>
            obtain ⟨k, hk, rfl, ⟨gg, qq, rfl⟩, H⟩ := hrel
            clear HQ
            have hk0 : (0 : Int) ≤ k := by omega
            by_cases hlt : k < 64
            · obtain ⟨q, hq⟩ : ∃ q : Nat, (k : Int) / 8 = (q : Int) := ⟨k / 8, by omega⟩
              obtain ⟨r, hr⟩ : ∃ r : Nat, (k : Int) % 8 = (r : Int) := ⟨k % 8, by omega⟩
              obtain ⟨s, hs⟩ : ∃ s : Nat, 8 * (r : Int) = (s : Int) := ⟨8 * r, by omega⟩
              have hq0 : (0 : Int) ≤ q := by omega
              have hq1 : (q : Int) < 8 := by omega
              have hr0 : (0 : Int) ≤ r := by omega
              have hr8 : (r : Int) < 8 := by omega
              have hs0 : (0 : Int) ≤ s := by omega
              have hs1 : (s : Int) < 64 := by omega
              have hlt' : (k : Int) < 64 := by omega
              have hb := HRG.out q
              obtain ⟨x1, hx1⟩ := Int.eq_ofNat_of_zero_le hb.1
              have hxl : (x1 : Int) < 18446744073709551616 := by rw [← hx1]; exact hb.2
              have ci : wr.cell? ⟨w.heap.size, q, none⟩ = some (.int .u64 (x1 : Nat)) := ((H.out.2.cell (p := ⟨w.heap.size, q, none⟩) (by have := HW.out.high; show w.heap.size < _; omega)).trans ((cell_of_row w0 _ q _ _ _ HW.out.r0).trans (ar_at _ _ _ _ (by omega)))).trans (by rw [hx1])
              have hv : IntKind.u8.wrap ((x1 : Int) / 2 ^ s) = ((jb ro k : Nat) : Int) := jb_at (r := r) (by omega) (by omega) (by omega) hx1
              have hx0 : (0 : Int) ≤ x1 := by omega
              have HK := Lib.hid hlt
              clear hb hx1
              obtain ⟨b, hbq⟩ : ∃ b, jb ro k = b := ⟨_, rfl⟩
              rw [hbq] at hv
              have HB := Lib.hid hbq
              clear hbq
              have hbs : w0.heap.size ≤ wr.heap.size := H.out.2.size
              go_wp2_with (at_builtin; refine wpList_append_lies _ rfl _ _ 22 rfl w0.heap.size 5 i0 (.int .u8 0) 1 1 Tryd.underlying22 hi hz0 hz1 hz2 rfl (by decide) _ k (p8 (jb ro) k) rfl (World.ownsRow.alloc H.out.1 _) ⟨wr.heap.size, 0, none⟩ 1 1 [.int .u8 (b : Int)] rfl rfl (cell_one_new _ _ _) (by intro u hu; simp at hu; subst hu; rfl) (by omega) (by unfold maxLen; omega) (by omega) (by simp; omega) (wr.heap.size + 1) (by simp) ?_; intro g2 c2 w3 hown3 hgrow hat hlt3; (have hb3 := own_below H.out.1 H.out.2 H.out.2.size hgrow); (rw [p8_snoc (jb ro) (jb ro) k (b : Int) (fun j hj => rfl) (by rw [HB.out])] at hown3); (have HQ := Lib.hid (And.intro hown3 hb3)); clear hgrow hat hlt3 hown3 hb3 H)
              go_roundw
              case rel => exact ⟨k + 1, by have := HK.out; omega, by go_num, ⟨_, _, rfl⟩, HQ⟩
              case measure => have := HK.out; simp [intOf]; omega
            · obtain rfl : k = 64 := by omega
              have hlt' : ¬ ((64 : Nat) : Int) < 64 := by omega
              simp only [Int.cast_ofNat_Int]
              go_wp2_with fail
              go_ret2
              exact ⟨_, rfl, by rw [HRO.out]; exact own_arg H.out.1, ⟨_, _, rfl⟩, HW.out.old.trans (H.out.2.mono HW.out.old.size)⟩
end Go.Proofs.YtoeomlmnejhgpaaDoor

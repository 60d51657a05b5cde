/- bailiwicklaw03.KeccakSums: the statement about it, and its card: whatever the input of bulk at most 1048576: true; the input reads as it did. CONDITIONS: the row's own: its listed tables read, when the call begins, as the program's text lays them; the card ties them to that text; that bulk (its second form). (With it, merged: KSums · KeccakSums.) -/
import Derived.Test.YtcmpnnfnkcmpcaaDoorM4
import Derived.Test.YtcmpnnfnkcmpcaaDoorM1
import Derived.Lib.SlBytesConst
import Derived.Deep.DeepCutAuto
namespace Go.Proofs.YtcmpnnfnkcmpcaaDoor
open Go.RowKit

/-- "before". -/
def bef (j : Nat) : Nat := [98, 101, 102, 111, 114, 101].getD j 0
theorem bef_lt (j : Nat) : bef j < 256 := by
  by_cases h : j < 6
  · have : ∀ j, j < 6 → bef j < 256 := by decide
    exact this j h
  · unfold bef
    rw [List.getD_eq_getElem?_getD, List.getElem?_eq_none (by simpa using h)]
    decide
theorem bef_row : (#[.int .u8 98, .int .u8 101, .int .u8 102, .int .u8 111, .int .u8 114, .int .u8 101] : Array Value) = (p8 bef 6).toArray := by kernel_rfl
/-- The worlds of the law: the document's hash at B, the sponge at V. -/
structure CKs (w : World) (V B : Nat) (h : Nat → Int) (v : Nat → Int) (m : Nat) (wx : World) : Prop where
  old : Below w.heap.size w wx
  rb : wx.heap[B]? = some (.cells (ar .u8 32 h) 25 (0, 0))
  rv : wx.heap[V]? = some (.cells (kr v #[.int .i64 (m : Nat)]) 46 (0, 0))
  hV : w.heap.size ≤ V
  ne : B ≠ V
section
variable {w wx w' : World} {V B m : Nat} {h v : Nat → Int}
theorem CKs.drew (c : CKs w V B h v m wx) : CKs w V B h v m wx.drew := ⟨c.old.drew, c.rb, c.rv, c.hV, c.ne⟩
theorem CKs.below (c : CKs w V B h v m wx) (hb : Below wx.heap.size wx w') : CKs w V B h v m w' :=
  ⟨c.old.trans (hb.mono c.old.size), (hb.block _ (Array.getElem?_eq_some_iff.1 c.rb).1).trans c.rb, (hb.block _ (Array.getElem?_eq_some_iff.1 c.rv).1).trans c.rv, c.hV, c.ne⟩
theorem CKs.wrote {v' : Nat → Int} {m' : Nat} (c : CKs w V B h v m wx) (hw : CW wx V v' m' w') : CKs w V B h v' m' w' :=
  ⟨hw.bt.below c.old c.hV c.old.size, (hw.bt.block _ c.ne (Array.getElem?_eq_some_iff.1 c.rb).1).trans c.rb, hw.row, c.hV, c.ne⟩
end
theorem ne32 (f : Nat → Int) (w : World) : (binOp BinOp.neq 25 (.agg (ar .u8 32 f)) (.agg (ar .u8 32 f))).run Tryd.prog w = .ok (.bool false) w := by
  have h := neb_ar 32 25 5 .u8 f f w (P := Tryd.prog) Tryd.underlying25 Tryd.underlying5 (by kernel_rfl) (by kernel_rfl)
  rw [h, eqF_same]
  rfl
theorem eq32 (f : Nat → Int) (w : World) : (binOp BinOp.eql 25 (.agg (ar .u8 32 f)) (.agg (ar .u8 32 f))).run Tryd.prog w = .ok (.bool true) w := by
  have h := eqb_ar 32 25 5 .u8 f f w (P := Tryd.prog) Tryd.underlying25 Tryd.underlying5 (by kernel_rfl) (by kernel_rfl)
  rw [h, eqF_same]
theorem eqg32 (f g : Nat → Int) (o1 o2 : Operand) (w : World) : (eqGuard BinOp.eql 25 o1 o2 (.agg (ar .u8 32 f)) (.agg (ar .u8 32 g))).run Tryd.prog w = .ok () w := by kernel_rfl
theorem neg32 (f g : Nat → Int) (o1 o2 : Operand) (w : World) : (eqGuard BinOp.neq 25 o1 o2 (.agg (ar .u8 32 f)) (.agg (ar .u8 32 g))).run Tryd.prog w = .ok () w := by kernel_rfl
theorem ld32 {g : Nat} {h : Nat → Int} {w : World} (hg : w.heap[g]? = some (.cells (ar .u8 32 h) 25 (0, 0))) : (Instr.loadAt 25 (.pointer (some ⟨g, 0, none⟩))).run Tryd.prog w = .ok (.agg (ar .u8 32 h)) w :=
  load_ar hg Tryd.underlying25 rfl info32
theorem slb_arg {n : Nat} {f : Nat → Nat} {u : Value} {w : World} (h : SlB n f u w) : ArgB w u n f := by
  obtain ⟨g, c, h1, h2, h3, h4⟩ := h
  refine ⟨_, c, h1, h2, (fun e => by cases e), ?_⟩
  rcases Nat.eq_zero_or_pos n with e | e
  · exact .inl e
  · exact .inr ⟨g, 0, rfl, h3, h4⟩
theorem slb_rd {n g : Nat} {f : Nat → Nat} {w : World} (h3 : g < w.heap.size) (h4 : ∀ j, j < n → w.cell? ⟨g, 0 + j, none⟩ = some (.int .u8 (f j : Nat))) : RdB w (some ⟨g, 0, none⟩) n f := .inr ⟨g, 0, rfl, h3, h4⟩
theorem region_list {P : Program} {Q : Exit → Act → World → Prop} {id : Nat} {l : List Oper} {a : Act} {w : World} (h : wpList P l.toArray Q l a w) : (Code.region id l.toArray false).wp P Q a w :=
  wp_region_list (by simpa using h)
/-- A slice by bounds, its answer known. -/
theorem wpList_slice {P : Program} {ops : Array Oper} {rest : List Oper} {o : Oper} {a : Act} {w : World} {Q : Exit → Act → World → Prop} (hgd : o.guard = none) (T : TypeId) (x : Operand) (lo hi mx : Option Operand) (ho : o.op = .slice T x lo hi mx) (vx : Value) (vl vh vm : Option Value)
    (hx : a.eval x = vx) (hl : lo.map a.eval = vl) (hh : hi.map a.eval = vh) (hm : mx.map a.eval = vm) (v : Value) (hr : (Instr.sliceAt T vx vl vh vm).run P w = .ok v w) (h : wpList P ops Q rest (a.put o.dst v) w) : wpList P ops Q (o :: rest) a w :=
  wpList_val hgd v (by
    unfold execOp
    rw [ho]
    simp only [hx, hl, hh, hm, Sem.run_bind, hr, Result.andThen_ok, Sem.run_pure]) h
/-- What is written of the bytes: a part of them, copied. -/
theorem part_of {w wx : World} {V B n cap l r : Nat} {a : Option Addr} {f : Nat → Nat} {h v : Nat → Int} {m : Nat} (c : CKs w V B h v m wx) (hP : ArgB w (.slice a n cap) n f) (hn : n ≤ 1048576) (hl : l + r ≤ n) (a' : Option Addr) (k : Nat)
    (hs : ArgB w (.slice a n cap) n f → ArgB w (.slice a' r (k)) r (fun j => f (l + j))) : ∃ g c5 w5, (Builtin.append_ #[22, 22] 22 #[.slice (some ⟨wx.heap.size, 0, none⟩) 0 0, .slice a' r k]).run Tryd.prog (wx.alloc (.cells #[] 5)) = .ok (.slice (some ⟨g, 0, none⟩) r c5) w5 ∧ RdB w5 (some ⟨g, 0, none⟩) r (fun j => f (l + j)) ∧ (0 < r → ∀ b o, (some ⟨g, 0, none⟩ : Option Addr) = some ⟨b, o, none⟩ → b ≠ V) ∧ CKs w V B h v m w5 := by
  have hb : Below wx.heap.size wx (wx.alloc (.cells #[] 5)) := (Below.refl _ _).alloc (Nat.le_refl _) _
  have c1 := c.below hb
  obtain ⟨g, c5, w5, h1, h2, h3, h4, h5, h6⟩ := copied (D := wx.heap.size) (by simp) ((hs hP).below c1.old) (by omega)
  have hVl : V < wx.heap.size := (Array.getElem?_eq_some_iff.1 c.rv).1
  refine ⟨g, c5, w5, h1, slb_rd h3 h5, fun h0 b o e => ?_, c1.below h6⟩
  cases e
  have := h4 h0
  simp at this
  omega
set_option maxRecDepth 100000 in
set_option maxHeartbeats 2000000 in
-- THE LAW.
theorem ksums_any {n m : Nat} {f g : Nat → Nat} {v u : Value} {w : World} (hn : n ≤ 1048576) (hf : ∀ j, f j < 256) (hm : m ≤ 1048576) (hg : ∀ j, g j < 65536) (hT : KTab w) (hP : ArgB w v n f) (hU : Arg16 w u m g) : Calls Tryd.prog 3 #[v, u] w fun e w' => e = .returned (.bool true) ∧ Below w.heap.size w w' := by
  have HP := Lib.hid hP
  obtain ⟨a, cap, rfl, hc, -, -⟩ := hP
  obtain ⟨au, cu, rfl, hcu, hru⟩ := hU
  have HT := Lib.hid hT
  have HF := Lib.hid (And.intro hf (And.intro hg (And.intro hc (And.intro hn (And.intro hm hcu)))))
  have HU := Lib.hid hru
  have HRS := Lib.hid (krsum (show n < 1048577 by omega) hf HP.out)
  have HI : ∀ f, Hid ((Tryd.prog.info? 25).map (·.size) = some (ar .u8 32 f).size) := fun f => Lib.hid (by rw [ar_size]; exact info32)
  have HSM : Hid (∀ q wx, Below w.heap.size w wx → SlB n f q wx → Calls Tryd.prog 10 #[q] wx fun e w' => e = .returned (.agg (ar .u8 32 (ksh f n))) ∧ Below wx.heap.size wx w') := Lib.hid fun q wx hb hq => ksum (by omega) hf (HT.out.below hb) (slb_arg hq)
  have HSS : Hid (∀ B h wx V l, CKs w V B h (ab f l) (l % 136) wx → Calls Tryd.prog 13 #[.pointer (some ⟨V, 0, none⟩)] wx fun e w' => e = .returned (.agg (ar .u8 32 (ksh f l))) ∧ Below wx.heap.size wx w') := Lib.hid fun B h wx V l c => kssum (l % 136) (Nat.mod_lt _ (by decide)) wx (HT.out.below c.old) c.rv
  have HLV : Hid (∀ wx, Below w.heap.size w wx → Calls Tryd.prog 14 #[] wx fun e w' => e = .returned (.bool true) ∧ Below wx.heap.size wx w') := Lib.hid fun wx hb => klives wx (HT.out.below hb)
  obtain ⟨h, hh⟩ : ∃ h, ksh f n = h := ⟨_, rfl⟩
  rw [hh] at HRS HSM
  have HH := Lib.hid hh
  have hn0 : (0 : Int) ≤ n := by omega
  have hn1 : (n : Int) ≤ 1048576 := by omega
  have hm0 : (0 : Int) ≤ m := by omega
  have hm1 : (m : Int) ≤ 1048576 := by omega
  clear hru hf hg hc hcu hn hm hT hh
  go_enter Tryd.func3, Tryd.ntmps3
  go_wp2_with fail
  refine HRS.out.mono ?_
  rintro e w2 ⟨rfl, hb2⟩
  have HRB := Lib.hid (heap_alloc_new w2 (.cells (#[.int .u8 0, .int .u8 0, .int .u8 0, .int .u8 0, .int .u8 0, .int .u8 0, .int .u8 0, .int .u8 0, .int .u8 0, .int .u8 0, .int .u8 0, .int .u8 0, .int .u8 0, .int .u8 0, .int .u8 0, .int .u8 0, .int .u8 0, .int .u8 0, .int .u8 0, .int .u8 0, .int .u8 0, .int .u8 0, .int .u8 0, .int .u8 0, .int .u8 0, .int .u8 0, .int .u8 0, .int .u8 0, .int .u8 0, .int .u8 0, .int .u8 0, .int .u8 0]) 25))
  obtain ⟨B, hB⟩ : ∃ B, w2.heap.size = B := ⟨_, rfl⟩
  have H2 := Lib.hid (show Below w.heap.size w ((w2.alloc (.cells (#[.int .u8 0, .int .u8 0, .int .u8 0, .int .u8 0, .int .u8 0, .int .u8 0, .int .u8 0, .int .u8 0, .int .u8 0, .int .u8 0, .int .u8 0, .int .u8 0, .int .u8 0, .int .u8 0, .int .u8 0, .int .u8 0, .int .u8 0, .int .u8 0, .int .u8 0, .int .u8 0, .int .u8 0, .int .u8 0, .int .u8 0, .int .u8 0, .int .u8 0, .int .u8 0, .int .u8 0, .int .u8 0, .int .u8 0, .int .u8 0, .int .u8 0, .int .u8 0]) 25)).setRow B (ar .u8 32 h)) ∧ ((w2.alloc (.cells (#[.int .u8 0, .int .u8 0, .int .u8 0, .int .u8 0, .int .u8 0, .int .u8 0, .int .u8 0, .int .u8 0, .int .u8 0, .int .u8 0, .int .u8 0, .int .u8 0, .int .u8 0, .int .u8 0, .int .u8 0, .int .u8 0, .int .u8 0, .int .u8 0, .int .u8 0, .int .u8 0, .int .u8 0, .int .u8 0, .int .u8 0, .int .u8 0, .int .u8 0, .int .u8 0, .int .u8 0, .int .u8 0, .int .u8 0, .int .u8 0, .int .u8 0, .int .u8 0]) 25)).setRow B (ar .u8 32 h)).heap[B]? = some (.cells (ar .u8 32 h) 25 (0, 0)) from by
    rw [← hB]
    exact ⟨below_setRow (hb2.alloc hb2.size _) hb2.size _, setRow_heap _ _ _ _ _ _ HRB.out⟩)
  rw [hB] at HRB
  clear hb2 HRS
  go_wp2_with (refine wpList_store_row rfl 25 _ _ rfl B (ar .u8 32 h) rfl rfl 25 _ HRB.out (HI h).out (by rw [ar_size]; rfl) (ar_one _ _ _) ?_)
  obtain ⟨w3, hw3⟩ : ∃ z, (w2.alloc (.cells (#[.int .u8 0, .int .u8 0, .int .u8 0, .int .u8 0, .int .u8 0, .int .u8 0, .int .u8 0, .int .u8 0, .int .u8 0, .int .u8 0, .int .u8 0, .int .u8 0, .int .u8 0, .int .u8 0, .int .u8 0, .int .u8 0, .int .u8 0, .int .u8 0, .int .u8 0, .int .u8 0, .int .u8 0, .int .u8 0, .int .u8 0, .int .u8 0, .int .u8 0, .int .u8 0, .int .u8 0, .int .u8 0, .int .u8 0, .int .u8 0, .int .u8 0, .int .u8 0]) 25)).setRow B (ar .u8 32 h) = z := ⟨_, rfl⟩
  rw [hw3] at H2 ⊢
  clear hw3 HRB hB
  refine (knew w3).mono ?_
  rintro e w4 ⟨rfl, hr4, hb4⟩
  have hBl : B < w3.heap.size := (Array.getElem?_eq_some_iff.1 H2.out.2).1
  have H4 := Lib.hid (show CKs w w3.heap.size B h (fun _ => 0) 0 w4 from ⟨H2.out.1.trans (hb4.mono H2.out.1.size), (hb4.block _ hBl).trans H2.out.2, hr4, H2.out.1.size, by omega⟩)
  obtain ⟨V, hV⟩ : ∃ V, w3.heap.size = V := ⟨_, rfl⟩
  rw [hV] at H4 ⊢
  clear hr4 hb4 hBl H2 hV
  go_wp2_with fail
  refine region_many [.val 13 ((.pointer (some ⟨V, 0, none⟩))), .val 14 (.bool false), .val 15 (.bool false), .own 16 EmB, .val 17 ((.slice a n cap)), .own 18 (SlB n f), .val 19 (.agg (ar .u8 32 h)), .val 20 ((.agg (ar .u8 32 h))), .val 21 (.bool false), .val 22 (.bool false)] [] (fun p => #[]) (fun i => i) (by kernel_rfl) (by kernel_rfl) (by exact ⟨trivial, trivial, trivial, ⟨rfl, fun _ _ _ hb h => EmB.below hb h⟩, trivial, ⟨rfl, fun _ _ _ hb h => SlB.below hb h⟩, trivial, trivial, trivial, trivial, trivial⟩) (fun p hp => by cases hp) ?_ ?_
  · refine ⟨?_, ?_, ?_, ?_, ?_, ?_, ?_, ?_, ?_, ?_, trivial⟩
    · intro ac wx hC hsz hK
      have h0 : ac.tmps.getD 6 undef = (.pointer (some ⟨V, 0, none⟩)) := hK.1 6 (by kernel_rfl)
      exact mm_val ((.pointer (some ⟨V, 0, none⟩))) rfl (by kernel_rfl) (by rw [← h0]; kernel_rfl) hC (by kernel_rfl) (by rw [hsz]; exact of_decide_eq_true (by kernel_rfl)) rfl
    · intro ac wx hC hsz hK
      have h0 : ac.tmps.getD 13 undef = (.pointer (some ⟨V, 0, none⟩)) := hK.2 ⟨0, .data⟩ (by simp) rfl _ rfl
      exact mm_bin .eql 27 (.tmp 13) (.const ((.pointer none))) 27 ((.pointer (some ⟨V, 0, none⟩))) ((.pointer none)) (.bool false) rfl rfl (by kernel_rfl) h0 rfl (by kernel_rfl) (by kernel_rfl) hC (by kernel_rfl) (by rw [hsz]; exact of_decide_eq_true (by kernel_rfl)) rfl
    · intro ac wx hC hsz hK
      have h0 : ac.tmps.getD 14 undef = .bool false := hK.2 ⟨1, .data⟩ (by simp) rfl _ rfl
      exact mm_val (.bool false) rfl (by kernel_rfl) (by rw [← h0]; kernel_rfl) hC (by kernel_rfl) (by rw [hsz]; exact of_decide_eq_true (by kernel_rfl)) rfl
    · intro ac wx hC hsz hK
      have hg : ac.tmps.getD 15 undef = .bool false := hK.2 ⟨2, .guard⟩ (by simp) rfl _ rfl
      have hb : Below wx.heap.size wx (wx.alloc (.cells #[] 5)) := (Below.refl _ _).alloc (Nat.le_refl _) _
      exact mm_grow (.slice (some ⟨wx.heap.size, 0, none⟩) 0 0) (wx.alloc (.cells #[] 5)) EmB rfl (wanted_of (d := 15) rfl (by kernel_rfl) hg) (by kernel_rfl) hb ⟨_, rfl, by simp⟩ hC (by kernel_rfl) (by rw [hsz]; exact of_decide_eq_true (by kernel_rfl)) rfl
    · intro ac wx hC hsz hK
      have hg : ac.tmps.getD 15 undef = .bool false := hK.2 ⟨2, .guard⟩ (by simp) rfl _ rfl
      have h0 : ac.tmps.getD 0 undef = (.slice a n cap) := hK.1 0 (by kernel_rfl)
      exact mm_val ((.slice a n cap)) rfl (wanted_of (d := 15) rfl (by kernel_rfl) hg) (by rw [← h0]; kernel_rfl) hC (by kernel_rfl) (by rw [hsz]; exact of_decide_eq_true (by kernel_rfl)) rfl
    · intro ac wx hC hsz hK
      have hg : ac.tmps.getD 15 undef = .bool false := hK.2 ⟨2, .guard⟩ (by simp) rfl _ rfl
      have h1 : ac.tmps.getD 17 undef = (.slice a n cap) := hK.2 ⟨4, .data⟩ (by simp) rfl _ rfl
      obtain ⟨E0, hE, hEl⟩ := hK.2 ⟨3, .data⟩ (by simp) rfl _ rfl
      have h0 : ac.tmps.getD 16 undef = .slice (some ⟨E0, 0, none⟩) 0 0 := hE
      obtain ⟨g5, c5, w5, hr5, e5, f5, -, k5, b5⟩ := copied hEl (HP.out.below ((H4.out.below hC.1)).old) (by have := HF.out.2.2.2.1; omega)
      exact mm_grow (.slice (some ⟨g5, 0, none⟩) n c5) w5 (SlB n f) rfl (wanted_of (d := 15) rfl (by kernel_rfl) hg) (run_app (.tmp 16) (.tmp 17) _ _ _ rfl rfl h0 h1 hr5) b5 ⟨g5, c5, rfl, e5, f5, k5⟩ hC (by kernel_rfl) (by rw [hsz]; exact of_decide_eq_true (by kernel_rfl)) rfl
    · intro ac wx hC hsz hK
      have hg : ac.tmps.getD 15 undef = .bool false := hK.2 ⟨2, .guard⟩ (by simp) rfl _ rfl
      have hG := hK.2 ⟨5, .data⟩ (by simp) rfl _ rfl
      exact mm_call 10 #[ac.tmps.getD 18 undef] (.agg (ar .u8 32 h)) rfl (wanted_of (d := 15) rfl (by kernel_rfl) hg) (by kernel_rfl) (HSM.out _ wx ((H4.out.below hC.1)).old hG) hC (by kernel_rfl) (by rw [hsz]; exact of_decide_eq_true (by kernel_rfl)) rfl
    · intro ac wx hC hsz hK
      have hg : ac.tmps.getD 15 undef = .bool false := hK.2 ⟨2, .guard⟩ (by simp) rfl _ rfl
      have h0 : ac.tmps.getD 5 undef = (.pointer (some ⟨B, 0, none⟩)) := hK.1 5 (by kernel_rfl)
      exact mm_load 25 (.tmp 5) ((.pointer (some ⟨B, 0, none⟩))) ((.agg (ar .u8 32 h))) rfl rfl (wanted_of (d := 15) rfl (by kernel_rfl) hg) h0 (ld32 ((H4.out.below hC.1)).rb) hC (by kernel_rfl) (by rw [hsz]; exact of_decide_eq_true (by kernel_rfl)) rfl
    · intro ac wx hC hsz hK
      have hg : ac.tmps.getD 15 undef = .bool false := hK.2 ⟨2, .guard⟩ (by simp) rfl _ rfl
      have h0 : ac.tmps.getD 19 undef = (.agg (ar .u8 32 h)) := hK.2 ⟨6, .data⟩ (by simp) rfl _ rfl
      have h1 : ac.tmps.getD 20 undef = (.agg (ar .u8 32 h)) := hK.2 ⟨7, .data⟩ (by simp) rfl _ rfl
      exact mm_bin .neq 25 (.tmp 19) (.tmp 20) 25 ((.agg (ar .u8 32 h))) ((.agg (ar .u8 32 h))) (.bool false) rfl rfl (wanted_of (d := 15) rfl (by kernel_rfl) hg) h0 h1 (by kernel_rfl) (ne32 _ wx) hC (by kernel_rfl) (by rw [hsz]; exact of_decide_eq_true (by kernel_rfl)) rfl
    · intro ac wx hC hsz hK
      have h0 : ac.tmps.getD 15 undef = .bool false := hK.2 ⟨2, .data⟩ (by simp) rfl _ rfl
      have h2 : ac.tmps.getD 21 undef = .bool false := hK.2 ⟨8, .data⟩ (by simp) rfl _ rfl
      exact mm_val (.bool false) rfl (by kernel_rfl) (run_pick (.tmp 15) (.const (.bool true)) (.tmp 21) false (.bool false) rfl h0 (h2)) hC (by kernel_rfl) (by rw [hsz]; exact of_decide_eq_true (by kernel_rfl)) rfl
  intro f3 w5 hb5 hap hf3
  have s22 := hf3 9 _ rfl
  have H5 := Lib.hid (H4.out.below hb5)
  clear hf3 hap hb5 H4 HSM
  generalize hAct : putAll _ _ _ = A1 at *
  have s22' : A1.tmps.getD 22 undef = .bool false := s22
  have s0 : A1.tmps.getD 0 undef = .slice a n cap := by subst hAct; kernel_rfl
  have s1 : A1.tmps.getD 1 undef = .slice au m cu := by subst hAct; kernel_rfl
  have s4 : A1.tmps.getD 4 undef = .bool false := by subst hAct; kernel_rfl
  have s5 : A1.tmps.getD 5 undef = .pointer (some ⟨B, 0, none⟩) := by subst hAct; kernel_rfl
  have s6 : A1.tmps.getD 6 undef = .pointer (some ⟨V, 0, none⟩) := by subst hAct; kernel_rfl
  have hsz : A1.tmps.size = 96 := by rw [← hAct, putAll_size]; rfl
  have hdf : A1.defers = [] := by subst hAct; kernel_rfl
  clear hAct s22 f3
  obtain ⟨u2, t2⟩ : ∃ u, A1.tmps.getD 2 undef = u := ⟨_, rfl⟩
  obtain ⟨u3, t3⟩ : ∃ u, A1.tmps.getD 3 undef = u := ⟨_, rfl⟩
  obtain ⟨u7, t7⟩ : ∃ u, A1.tmps.getD 7 undef = u := ⟨_, rfl⟩
  obtain ⟨u8, t8⟩ : ∃ u, A1.tmps.getD 8 undef = u := ⟨_, rfl⟩
  obtain ⟨u9, t9⟩ : ∃ u, A1.tmps.getD 9 undef = u := ⟨_, rfl⟩
  obtain ⟨u10, t10⟩ : ∃ u, A1.tmps.getD 10 undef = u := ⟨_, rfl⟩
  obtain ⟨u11, t11⟩ : ∃ u, A1.tmps.getD 11 undef = u := ⟨_, rfl⟩
  obtain ⟨u12, t12⟩ : ∃ u, A1.tmps.getD 12 undef = u := ⟨_, rfl⟩
  obtain ⟨u13, t13⟩ : ∃ u, A1.tmps.getD 13 undef = u := ⟨_, rfl⟩
  obtain ⟨u14, t14⟩ : ∃ u, A1.tmps.getD 14 undef = u := ⟨_, rfl⟩
  obtain ⟨u15, t15⟩ : ∃ u, A1.tmps.getD 15 undef = u := ⟨_, rfl⟩
  obtain ⟨u16, t16⟩ : ∃ u, A1.tmps.getD 16 undef = u := ⟨_, rfl⟩
  obtain ⟨u17, t17⟩ : ∃ u, A1.tmps.getD 17 undef = u := ⟨_, rfl⟩
  obtain ⟨u18, t18⟩ : ∃ u, A1.tmps.getD 18 undef = u := ⟨_, rfl⟩
  obtain ⟨u19, t19⟩ : ∃ u, A1.tmps.getD 19 undef = u := ⟨_, rfl⟩
  obtain ⟨u20, t20⟩ : ∃ u, A1.tmps.getD 20 undef = u := ⟨_, rfl⟩
  obtain ⟨u21, t21⟩ : ∃ u, A1.tmps.getD 21 undef = u := ⟨_, rfl⟩
  obtain ⟨u23, t23⟩ : ∃ u, A1.tmps.getD 23 undef = u := ⟨_, rfl⟩
  obtain ⟨u24, t24⟩ : ∃ u, A1.tmps.getD 24 undef = u := ⟨_, rfl⟩
  obtain ⟨u25, t25⟩ : ∃ u, A1.tmps.getD 25 undef = u := ⟨_, rfl⟩
  obtain ⟨u26, t26⟩ : ∃ u, A1.tmps.getD 26 undef = u := ⟨_, rfl⟩
  obtain ⟨u27, t27⟩ : ∃ u, A1.tmps.getD 27 undef = u := ⟨_, rfl⟩
  obtain ⟨u28, t28⟩ : ∃ u, A1.tmps.getD 28 undef = u := ⟨_, rfl⟩
  obtain ⟨u29, t29⟩ : ∃ u, A1.tmps.getD 29 undef = u := ⟨_, rfl⟩
  obtain ⟨u30, t30⟩ : ∃ u, A1.tmps.getD 30 undef = u := ⟨_, rfl⟩
  obtain ⟨u31, t31⟩ : ∃ u, A1.tmps.getD 31 undef = u := ⟨_, rfl⟩
  obtain ⟨u32, t32⟩ : ∃ u, A1.tmps.getD 32 undef = u := ⟨_, rfl⟩
  obtain ⟨u33, t33⟩ : ∃ u, A1.tmps.getD 33 undef = u := ⟨_, rfl⟩
  obtain ⟨u34, t34⟩ : ∃ u, A1.tmps.getD 34 undef = u := ⟨_, rfl⟩
  obtain ⟨u35, t35⟩ : ∃ u, A1.tmps.getD 35 undef = u := ⟨_, rfl⟩
  obtain ⟨u36, t36⟩ : ∃ u, A1.tmps.getD 36 undef = u := ⟨_, rfl⟩
  obtain ⟨u37, t37⟩ : ∃ u, A1.tmps.getD 37 undef = u := ⟨_, rfl⟩
  obtain ⟨u38, t38⟩ : ∃ u, A1.tmps.getD 38 undef = u := ⟨_, rfl⟩
  obtain ⟨u39, t39⟩ : ∃ u, A1.tmps.getD 39 undef = u := ⟨_, rfl⟩
  obtain ⟨u40, t40⟩ : ∃ u, A1.tmps.getD 40 undef = u := ⟨_, rfl⟩
  obtain ⟨u41, t41⟩ : ∃ u, A1.tmps.getD 41 undef = u := ⟨_, rfl⟩
  obtain ⟨u42, t42⟩ : ∃ u, A1.tmps.getD 42 undef = u := ⟨_, rfl⟩
  obtain ⟨u43, t43⟩ : ∃ u, A1.tmps.getD 43 undef = u := ⟨_, rfl⟩
  obtain ⟨u44, t44⟩ : ∃ u, A1.tmps.getD 44 undef = u := ⟨_, rfl⟩
  obtain ⟨u45, t45⟩ : ∃ u, A1.tmps.getD 45 undef = u := ⟨_, rfl⟩
  obtain ⟨u46, t46⟩ : ∃ u, A1.tmps.getD 46 undef = u := ⟨_, rfl⟩
  obtain ⟨u47, t47⟩ : ∃ u, A1.tmps.getD 47 undef = u := ⟨_, rfl⟩
  obtain ⟨u48, t48⟩ : ∃ u, A1.tmps.getD 48 undef = u := ⟨_, rfl⟩
  obtain ⟨u49, t49⟩ : ∃ u, A1.tmps.getD 49 undef = u := ⟨_, rfl⟩
  obtain ⟨u50, t50⟩ : ∃ u, A1.tmps.getD 50 undef = u := ⟨_, rfl⟩
  obtain ⟨u51, t51⟩ : ∃ u, A1.tmps.getD 51 undef = u := ⟨_, rfl⟩
  obtain ⟨u52, t52⟩ : ∃ u, A1.tmps.getD 52 undef = u := ⟨_, rfl⟩
  obtain ⟨u53, t53⟩ : ∃ u, A1.tmps.getD 53 undef = u := ⟨_, rfl⟩
  obtain ⟨u54, t54⟩ : ∃ u, A1.tmps.getD 54 undef = u := ⟨_, rfl⟩
  obtain ⟨u55, t55⟩ : ∃ u, A1.tmps.getD 55 undef = u := ⟨_, rfl⟩
  obtain ⟨u56, t56⟩ : ∃ u, A1.tmps.getD 56 undef = u := ⟨_, rfl⟩
  obtain ⟨u57, t57⟩ : ∃ u, A1.tmps.getD 57 undef = u := ⟨_, rfl⟩
  obtain ⟨u58, t58⟩ : ∃ u, A1.tmps.getD 58 undef = u := ⟨_, rfl⟩
  obtain ⟨u59, t59⟩ : ∃ u, A1.tmps.getD 59 undef = u := ⟨_, rfl⟩
  obtain ⟨u60, t60⟩ : ∃ u, A1.tmps.getD 60 undef = u := ⟨_, rfl⟩
  obtain ⟨u61, t61⟩ : ∃ u, A1.tmps.getD 61 undef = u := ⟨_, rfl⟩
  obtain ⟨u62, t62⟩ : ∃ u, A1.tmps.getD 62 undef = u := ⟨_, rfl⟩
  obtain ⟨u63, t63⟩ : ∃ u, A1.tmps.getD 63 undef = u := ⟨_, rfl⟩
  obtain ⟨u64, t64⟩ : ∃ u, A1.tmps.getD 64 undef = u := ⟨_, rfl⟩
  obtain ⟨u65, t65⟩ : ∃ u, A1.tmps.getD 65 undef = u := ⟨_, rfl⟩
  obtain ⟨u66, t66⟩ : ∃ u, A1.tmps.getD 66 undef = u := ⟨_, rfl⟩
  obtain ⟨u67, t67⟩ : ∃ u, A1.tmps.getD 67 undef = u := ⟨_, rfl⟩
  obtain ⟨u68, t68⟩ : ∃ u, A1.tmps.getD 68 undef = u := ⟨_, rfl⟩
  obtain ⟨u69, t69⟩ : ∃ u, A1.tmps.getD 69 undef = u := ⟨_, rfl⟩
  obtain ⟨u70, t70⟩ : ∃ u, A1.tmps.getD 70 undef = u := ⟨_, rfl⟩
  obtain ⟨u71, t71⟩ : ∃ u, A1.tmps.getD 71 undef = u := ⟨_, rfl⟩
  obtain ⟨u72, t72⟩ : ∃ u, A1.tmps.getD 72 undef = u := ⟨_, rfl⟩
  obtain ⟨u73, t73⟩ : ∃ u, A1.tmps.getD 73 undef = u := ⟨_, rfl⟩
  obtain ⟨u74, t74⟩ : ∃ u, A1.tmps.getD 74 undef = u := ⟨_, rfl⟩
  obtain ⟨u75, t75⟩ : ∃ u, A1.tmps.getD 75 undef = u := ⟨_, rfl⟩
  obtain ⟨u76, t76⟩ : ∃ u, A1.tmps.getD 76 undef = u := ⟨_, rfl⟩
  obtain ⟨u77, t77⟩ : ∃ u, A1.tmps.getD 77 undef = u := ⟨_, rfl⟩
  obtain ⟨u78, t78⟩ : ∃ u, A1.tmps.getD 78 undef = u := ⟨_, rfl⟩
  obtain ⟨u79, t79⟩ : ∃ u, A1.tmps.getD 79 undef = u := ⟨_, rfl⟩
  obtain ⟨u80, t80⟩ : ∃ u, A1.tmps.getD 80 undef = u := ⟨_, rfl⟩
  obtain ⟨u81, t81⟩ : ∃ u, A1.tmps.getD 81 undef = u := ⟨_, rfl⟩
  obtain ⟨u82, t82⟩ : ∃ u, A1.tmps.getD 82 undef = u := ⟨_, rfl⟩
  obtain ⟨u83, t83⟩ : ∃ u, A1.tmps.getD 83 undef = u := ⟨_, rfl⟩
  obtain ⟨u84, t84⟩ : ∃ u, A1.tmps.getD 84 undef = u := ⟨_, rfl⟩
  obtain ⟨u85, t85⟩ : ∃ u, A1.tmps.getD 85 undef = u := ⟨_, rfl⟩
  obtain ⟨u86, t86⟩ : ∃ u, A1.tmps.getD 86 undef = u := ⟨_, rfl⟩
  obtain ⟨u87, t87⟩ : ∃ u, A1.tmps.getD 87 undef = u := ⟨_, rfl⟩
  obtain ⟨u88, t88⟩ : ∃ u, A1.tmps.getD 88 undef = u := ⟨_, rfl⟩
  obtain ⟨u89, t89⟩ : ∃ u, A1.tmps.getD 89 undef = u := ⟨_, rfl⟩
  obtain ⟨u90, t90⟩ : ∃ u, A1.tmps.getD 90 undef = u := ⟨_, rfl⟩
  obtain ⟨u91, t91⟩ : ∃ u, A1.tmps.getD 91 undef = u := ⟨_, rfl⟩
  obtain ⟨u92, t92⟩ : ∃ u, A1.tmps.getD 92 undef = u := ⟨_, rfl⟩
  obtain ⟨u93, t93⟩ : ∃ u, A1.tmps.getD 93 undef = u := ⟨_, rfl⟩
  obtain ⟨u94, t94⟩ : ∃ u, A1.tmps.getD 94 undef = u := ⟨_, rfl⟩
  obtain ⟨u95, t95⟩ : ∃ u, A1.tmps.getD 95 undef = u := ⟨_, rfl⟩
  obtain ⟨tm, df⟩ := A1
  simp only at *
  have hLt := arr_litT tm
  rw [hsz] at hLt
  simp only [List.range, List.range.loop, List.map] at hLt
  rw [s0, s1, t2, t3, s4, s5, s6, t7, t8, t9, t10, t11, t12, t13, t14, t15, t16, t17, t18, t19, t20, t21, s22', t23, t24, t25, t26, t27, t28, t29, t30, t31, t32, t33, t34, t35, t36, t37, t38, t39, t40, t41, t42, t43, t44, t45, t46, t47, t48, t49, t50, t51, t52, t53, t54, t55, t56, t57, t58, t59, t60, t61, t62, t63, t64, t65, t66, t67, t68, t69, t70, t71, t72, t73, t74, t75, t76, t77, t78, t79, t80, t81, t82, t83, t84, t85, t86, t87, t88, t89, t90, t91, t92, t93, t94, t95] at hLt
  subst hLt hdf
  clear s0 s1 t2 t3 s4 s5 s6 t7 t8 t9 t10 t11 t12 t13 t14 t15 t16 t17 t18 t19 t20 t21 s22' t23 t24 t25 t26 t27 t28 t29 t30 t31 t32 t33 t34 t35 t36 t37 t38 t39 t40 t41 t42 t43 t44 t45 t46 t47 t48 t49 t50 t51 t52 t53 t54 t55 t56 t57 t58 t59 t60 t61 t62 t63 t64 t65 t66 t67 t68 t69 t70 t71 t72 t73 t74 t75 t76 t77 t78 t79 t80 t81 t82 t83 t84 t85 t86 t87 t88 t89 t90 t91 t92 t93 t94 t95 hsz
  have kc : (convert 22 22 (.slice (some ⟨w5.heap.size, 0, none⟩) 6 6)).run Tryd.prog (w5.alloc (.cells #[.int .u8 98, .int .u8 101, .int .u8 102, .int .u8 111, .int .u8 114, .int .u8 101] 5)) = .ok (.slice (some ⟨w5.heap.size, 0, none⟩) 6 6) (w5.alloc (.cells #[.int .u8 98, .int .u8 101, .int .u8 102, .int .u8 111, .int .u8 114, .int .u8 101] 5 (6, 7))) := Lib.run_convert_bytes_const (P := Tryd.prog) w5 22 5 #[.int .u8 98, .int .u8 101, .int .u8 102, .int .u8 111, .int .u8 114, .int .u8 101] 6 6 Tryd.underlying22 Tryd.underlying5
  have hrow6 := heap_alloc_new w5 (.cells #[.int .u8 98, .int .u8 101, .int .u8 102, .int .u8 111, .int .u8 114, .int .u8 101] 5 (6, 7))
  have hb6 : Below w5.heap.size w5 (w5.alloc (.cells #[.int .u8 98, .int .u8 101, .int .u8 102, .int .u8 111, .int .u8 114, .int .u8 101] 5 (6, 7))) := (Below.refl _ _).alloc (Nat.le_refl _) _
  have H6 := Lib.hid (H5.out.below hb6)
  have hVl : V < w5.heap.size := (Array.getElem?_eq_some_iff.1 H5.out.rv).1
  have WR := Lib.hid (kwr (V := V) (m := 0) (n := 6) (f := bef) (some ⟨w5.heap.size, 0, none⟩) 6 (by decide) bef_lt _ (HT.out.below H6.out.old) (apt_of HT.out H5.out.hV) (fun _ b o e => by cases e; omega) (.inr ⟨w5.heap.size, 0, rfl, by simp, fun j hj => by
    rw [bef_row] at hrow6 ⊢
    show _ = some (Value.int .u8 ((bef (0 + j) : Nat) : Int))
    rw [Nat.zero_add]
    exact (cell_of_row _ _ j _ _ _ hrow6).trans (by rw [List.getElem?_toArray]; exact p8_at _ _ _ hj)⟩) H6.out.rv)
  clear hrow6 hb6 hVl H5
  go_wp2_with fail
  refine WR.out.mono ?_
  rintro e w7 ⟨rfl, hw⟩
  have H7 := Lib.hid (H6.out.wrote hw)
  clear hw WR H6 kc
  go_wp2_with fail
  refine (krst _ H7.out.rv).mono ?_
  rintro e w8 ⟨rfl, hw⟩
  have H8 := Lib.hid (show CKs w V B h (ab f 0) (0 % 136) w8 from H7.out.wrote hw)
  clear hw H7
  go_wp2_with fail
  go_loopw [7, 8] (fun p i wr => ∃ l k : Nat, l ≤ n ∧ k ≤ m ∧ p = .int .i64 l ∧ i = .int .i64 k ∧ Hid (CKs w V B h (ab f l) (l % 136) wr)) (fun _ i _ => m - (intOf i).toNat)
  case atStart => exact ⟨0, 0, by omega, by omega, rfl, rfl, H8⟩
  case round =>
    obtain ⟨l, k, hl, hk, rfl, rfl, H⟩ := hrel
    clear H8
    have hl0 : (0 : Int) ≤ l := by omega
    have hk0 : (0 : Int) ≤ k := by omega
    by_cases hkm : k < m
    · have hkm' : (k : Int) < m := by omega
      by_cases hln : l < n
      · have hln' : (l : Int) < n := by omega
        obtain ⟨bu, ou, rfl, hbu, hcu⟩ : ∃ b o, au = some ⟨b, o, none⟩ ∧ b < w.heap.size ∧ ∀ j, j < m → w.cell? ⟨b, o + j, none⟩ = some (.int .u16 (g j : Nat)) := by
          rcases HU.out with h0 | h0
          · omega
          · exact h0
        have cg := (H.out.old.cell (p := ⟨bu, ou + k, none⟩) hbu).trans (hcu k hkm)
        have hgk := HF.out.2.1 k
        obtain ⟨y, hy⟩ : ∃ y, g k = y := ⟨_, rfl⟩
        rw [hy] at cg hgk
        obtain ⟨d, hd⟩ : ∃ d : Nat, (n : Int) - (l : Int) + 1 = (d : Int) := ⟨n - l + 1, by omega⟩
        have hd0 : (0 : Int) < d := by omega
        have hdz : ((d : Int) == 0) = false := by simp; omega
        have hdn : ¬ d = 0 := by omega
        obtain ⟨r, hr⟩ : ∃ r : Nat, (y : Int) % (d : Int) = (r : Int) := ⟨y % d, by omega⟩
        have hrd : r < d := by have := Nat.mod_lt y (show 0 < d by omega); omega
        have hlr : l + r ≤ n := by omega
        have hwy : IntKind.i64.wrap (y : Int) = (y : Int) := by rw [IntKind.wrap_i64]; omega
        have hmr : ∀ w, (binOp BinOp.rem 3 (.int .i64 (y : Nat)) (.int .i64 (d : Nat))).run Tryd.prog w = .ok (.int .i64 (r : Nat)) w := by
          have e1 : (y : Int).tmod d = (r : Int) := by rw [Int.tmod_eq_emod_of_nonneg (by omega)]; exact hr
          have e3 : IntKind.i64.wrap (r : Int) = r := by rw [IntKind.wrap_i64]; omega
          intro w
          go_simp
        obtain ⟨q, hq⟩ : ∃ q : Nat, l + r = q := ⟨_, rfl⟩
        have hq1 : (l : Int) + (r : Int) = (q : Int) := by omega
        have hix : ∀ w, (Instr.indexAt 23 (.slice (some ⟨bu, ou, none⟩) m cu) (.int .i64 (k : Nat))).run Tryd.prog w = .ok (.pointer (some ⟨bu, ou + k, none⟩)) w := fun w => by go_simp
        obtain ⟨a', hsl, har⟩ := arg_sub (a := a) (n := n) (cap := cap) (l := l) (m := r) hlr HF.out.2.2.1
        obtain ⟨g5, c5, w5, hap, hrd5, hse5, hck⟩ := part_of H.out HP.out HF.out.2.2.2.1 hlr a' (cap - l) (har w f)
        rw [hq] at hsl
        have HAP := Lib.hid hap
        have HAD := Lib.hid (show ∀ w, (binOp BinOp.add 3 (.int .i64 l) (.int .i64 r)).run Tryd.prog w = .ok (.int .i64 (q : Nat)) w from by
          have e3 : IntKind.i64.wrap (q : Int) = q := by rw [IntKind.wrap_i64]; omega
          intro w
          go_simp)
        have H5 := Lib.hid hck
        have WR := Lib.hid (kwr (V := V) (m := l) (n := r) (f := f) (some ⟨g5, 0, none⟩) c5 (by omega) HF.out.1 w5 (HT.out.below hck.old) (apt_of HT.out H.out.hV) hse5 hrd5 hck.rv)
        rw [hq] at WR
        have hql : q ≤ n := by omega
        have hq0 : (0 : Int) ≤ q := by omega
        clear hcu hbu hy hap hck hrd5 hse5 har hq hrd hgk
        go_upto_region 12 with fail
        (try rw [hr])
        refine region_list ?_
        refine wpList_val (w' := wr) rfl (.pointer (some ⟨V, 0, none⟩)) (by kernel_rfl) ?_
        refine wpList_val (w' := wr.alloc (.cells #[] 5)) rfl (.slice (some ⟨wr.heap.size, 0, none⟩) 0 0) (by kernel_rfl) ?_
        refine wpList_val (w' := wr.alloc (.cells #[] 5)) rfl (.slice a n cap) (by kernel_rfl) ?_
        refine wpList_val (w' := wr.alloc (.cells #[] 5)) rfl (.int .i64 l) (by kernel_rfl) ?_
        refine wpList_val (w' := wr.alloc (.cells #[] 5)) rfl (.int .i64 l) (by kernel_rfl) ?_
        refine wpList_val (w' := wr.alloc (.cells #[] 5)) rfl (.int .i64 r) (by kernel_rfl) ?_
        refine wpList_sem rfl (binOp BinOp.add 3 (.int .i64 l) (.int .i64 r)) (.int .i64 (q : Nat)) (by kernel_rfl) (HAD.out _) ?_
        refine wpList_sem rfl (Instr.sliceAt 22 (.slice a n cap) (some (.int .i64 (l : Int))) (some (.int .i64 (q : Int))) none) (.slice a' r (cap - l)) (by kernel_rfl) (hsl _) ?_
        simp only [Act.put, List.setIfInBounds_toArray, List.set_cons_succ, List.set_cons_zero]
        refine wpList_val (w' := w5) rfl (.slice (some ⟨g5, 0, none⟩) r c5) (run_app (.tmp 53) (.tmp 59) (.slice (some ⟨wr.heap.size, 0, none⟩) 0 0) (.slice a' r (cap - l)) _ (by kernel_rfl) (by kernel_rfl) (by kernel_rfl) (by kernel_rfl) HAP.out) ?_
        simp only [Act.put, List.setIfInBounds_toArray, List.set_cons_succ, List.set_cons_zero]
        go_wp2_with fail
        refine WR.out.mono ?_
        rintro e w6 ⟨rfl, hw⟩
        have H6 := Lib.hid (H5.out.wrote hw)
        clear hw WR HAP H5 H hsl hmr hix cg
        by_cases hk00 : k = 0
        · subst hk00
          clear hk0 hkm'
          rw [show ((0 : Nat) : Int) = 0 from rfl]
          obtain ⟨a2, hs2, har2⟩ := arg_to (a := a) (n := n) (cap := cap) (m := q) hql HF.out.2.2.1
          have HS2 := Lib.hid hs2
          have HRQ := Lib.hid (fun wx (c : CKs w V B h (ab f q) (q % 136) wx) => krsum (show q < 1048577 by omega) HF.out.1 ((har2 w f HP.out).below c.old))
          have HSQ := Lib.hid (fun wx c => HSS.out B h wx V q c)
          obtain ⟨hq2, hhq⟩ : ∃ z, ksh f q = z := ⟨_, rfl⟩
          rw [hhq] at HRQ HSQ
          clear hs2 har2 hhq
          go_wp2_with fail
          refine wp_region_quiet (C := CKs w V B h (ab f q) (q % 136)) (by kernel_rfl) (by kernel_rfl) H6.out.drew ?_
          with_reducible refine q_val (.int .i64 0) (by kernel_rfl) (fun _ _ => by kernel_rfl) ?_
          with_reducible refine q_bin .eql 3 _ _ 3 (.int .i64 0) (.int .i64 0) (.bool true) rfl (by kernel_rfl) (by kernel_rfl) (by kernel_rfl) (fun _ => by kernel_rfl) (fun _ => by kernel_rfl) ?_
          with_reducible refine q_val (.bool true) (by kernel_rfl) (fun _ _ => by kernel_rfl) ?_
          with_reducible refine q_val (.pointer (some ⟨V, 0, none⟩)) (by kernel_rfl) (fun _ _ => by kernel_rfl) ?_
          with_reducible refine q_call 13 #[.pointer (some ⟨V, 0, none⟩)] (.agg (ar .u8 32 hq2)) (by kernel_rfl) (fun _ => by kernel_rfl) (fun wx c => (HSQ.out wx c).mono fun e w' hh => ⟨hh.1, c.below hh.2⟩) ?_
          with_reducible refine q_val (.slice a n cap) (by kernel_rfl) (fun _ _ => by kernel_rfl) ?_
          with_reducible refine q_val (.int .i64 q) (by kernel_rfl) (fun _ _ => by kernel_rfl) ?_
          with_reducible refine q_v (Instr.sliceAt 22 (.slice a n cap) none (some (.int .i64 (q : Int))) none) (.slice a2 q cap) (by kernel_rfl) (by kernel_rfl) (fun wz _ => HS2.out wz) ?_
          with_reducible refine q_call 8 #[.slice a2 q cap] (.agg (ar .u8 32 hq2)) (by kernel_rfl) (fun _ => by kernel_rfl) (fun wx c => (HRQ.out wx c).mono fun e w' hh => ⟨hh.1, c.below hh.2⟩) ?_
          with_reducible refine q_bin .neq 25 _ _ 25 (.agg (ar .u8 32 hq2)) (.agg (ar .u8 32 hq2)) (.bool false) rfl (by kernel_rfl) (by kernel_rfl) (by kernel_rfl) (fun _ => neg32 _ _ _ _ _) (fun _ => ne32 _ _) ?_
          with_reducible refine q_val (.bool false) (by kernel_rfl) (fun _ _ => by kernel_rfl) ?_
          with_reducible refine wpQuiet_nil ?_
          intro w7 hC
          simp only [Act.put, List.setIfInBounds_toArray, List.set_cons_succ, List.set_cons_zero]
          have H7 := Lib.hid hC
          clear hC H6 HRQ HSQ HS2
          go_wp2_with fail
          go_roundw
          case rel => exact ⟨q, 0 + 1, by omega, by omega, rfl, by go_num, H7⟩
          case measure => simp [intOf]; omega
        · have ht : ((k : Int) == 0) = false := by simp; omega
          go_wp2_with fail
          refine wp_region_quiet (C := CKs w V B h (ab f q) (q % 136)) (by kernel_rfl) (by kernel_rfl) H6.out.drew ?_
          with_reducible refine q_val (.int .i64 k) (by kernel_rfl) (fun _ _ => by kernel_rfl) ?_
          with_reducible refine q_bin .eql 3 _ _ 3 (.int .i64 k) (.int .i64 0) (.bool false) rfl (by kernel_rfl) (by kernel_rfl) (by kernel_rfl) (fun _ => by kernel_rfl) (fun _ => by rw [← ht]; kernel_rfl) ?_
          with_reducible refine q_val (.bool false) (by kernel_rfl) (fun _ _ => by kernel_rfl) ?_
          with_reducible refine q_skip (by kernel_rfl) ?_
          with_reducible refine q_skip (by kernel_rfl) ?_
          with_reducible refine q_skip (by kernel_rfl) ?_
          with_reducible refine q_skip (by kernel_rfl) ?_
          with_reducible refine q_skip (by kernel_rfl) ?_
          with_reducible refine q_skip (by kernel_rfl) ?_
          with_reducible refine q_skip (by kernel_rfl) ?_
          with_reducible refine q_val (.bool false) (by kernel_rfl) (fun _ _ => by kernel_rfl) ?_
          with_reducible refine wpQuiet_nil ?_
          intro w7 hC
          simp only [Act.put, List.setIfInBounds_toArray, List.set_cons_succ, List.set_cons_zero]
          have H7 := Lib.hid hC
          clear hC H6
          go_wp2_with fail
          go_roundw
          case rel => exact ⟨q, k + 1, by omega, by omega, rfl, by go_num, H7⟩
          case measure => simp [intOf]; omega
      · have hln' : ¬ (l : Int) < n := by omega
        obtain ⟨a', hsl, har⟩ := arg_from (a := a) (n := n) (cap := cap) (m := l) hl HF.out.2.2.1
        obtain ⟨g5, c5, w5, hap, hrd5, hse5, hck⟩ := part_of H.out HP.out HF.out.2.2.2.1 (l := l) (r := n - l) (by omega) a' (cap - l) (har w f)
        have HAP := Lib.hid hap
        have H5 := Lib.hid hck
        have WR := Lib.hid (kwr (V := V) (m := l) (n := n - l) (f := f) (some ⟨g5, 0, none⟩) c5 (by omega) HF.out.1 w5 (HT.out.below hck.old) (apt_of HT.out H.out.hV) hse5 hrd5 hck.rv)
        rw [show l + (n - l) = n by omega] at WR
        have HSN := Lib.hid (fun wx c => HSS.out B h wx V n c)
        rw [HH.out] at HSN
        clear hap hck hrd5 hse5 har
        go_upto_region 16 with fail
        refine region_list ?_
        refine wpList_val (w' := wr) rfl (.pointer (some ⟨V, 0, none⟩)) (by kernel_rfl) ?_
        refine wpList_val (w' := wr.alloc (.cells #[] 5)) rfl (.slice (some ⟨wr.heap.size, 0, none⟩) 0 0) (by kernel_rfl) ?_
        refine wpList_val (w' := wr.alloc (.cells #[] 5)) rfl (.slice a n cap) (by kernel_rfl) ?_
        refine wpList_val (w' := wr.alloc (.cells #[] 5)) rfl (.int .i64 l) (by kernel_rfl) ?_
        refine wpList_sem rfl (Instr.sliceAt 22 (.slice a n cap) (some (.int .i64 (l : Int))) none none) (.slice a' (n - l) (cap - l)) (by kernel_rfl) (hsl _) ?_
        simp only [Act.put, List.setIfInBounds_toArray, List.set_cons_succ, List.set_cons_zero]
        refine wpList_val (w' := w5) rfl (.slice (some ⟨g5, 0, none⟩) (n - l) c5) (run_app (.tmp 77) (.tmp 80) (.slice (some ⟨wr.heap.size, 0, none⟩) 0 0) (.slice a' (n - l) (cap - l)) _ (by kernel_rfl) (by kernel_rfl) (by kernel_rfl) (by kernel_rfl) HAP.out) ?_
        simp only [Act.put, List.setIfInBounds_toArray, List.set_cons_succ, List.set_cons_zero]
        go_wp2_with fail
        refine WR.out.mono ?_
        rintro e w6 ⟨rfl, hw⟩
        have H6 := Lib.hid (H5.out.wrote hw)
        clear hw WR HAP H5 H hsl
        go_wp2_with fail
        refine wp_region_quiet (C := CKs w V B h (ab f n) (n % 136)) (by kernel_rfl) (by kernel_rfl) H6.out.drew ?_
        with_reducible refine q_val (.pointer (some ⟨V, 0, none⟩)) (by kernel_rfl) (fun _ _ => by kernel_rfl) ?_
        with_reducible refine q_call 13 #[.pointer (some ⟨V, 0, none⟩)] (.agg (ar .u8 32 h)) (by kernel_rfl) (fun _ => by kernel_rfl) (fun wx c => (HSN.out wx c).mono fun e w' hh => ⟨hh.1, c.below hh.2⟩) ?_
        with_reducible refine q_load 25 (.tmp 5) (.pointer (some ⟨B, 0, none⟩)) (.agg (ar .u8 32 h)) rfl (by kernel_rfl) (by kernel_rfl) (fun _ c => ld32 c.rb) ?_
        with_reducible refine q_bin .eql 25 _ _ 25 (.agg (ar .u8 32 h)) (.agg (ar .u8 32 h)) (.bool true) rfl (by kernel_rfl) (by kernel_rfl) (by kernel_rfl) (fun _ => eqg32 _ _ _ _ _) (fun _ => eq32 _ _) ?_
        with_reducible refine q_val (.bool true) (by kernel_rfl) (fun _ _ => by kernel_rfl) ?_
        with_reducible refine q_val (.pointer (some ⟨V, 0, none⟩)) (by kernel_rfl) (fun _ _ => by kernel_rfl) ?_
        with_reducible refine q_call 13 #[.pointer (some ⟨V, 0, none⟩)] (.agg (ar .u8 32 h)) (by kernel_rfl) (fun _ => by kernel_rfl) (fun wx c => (HSN.out wx c).mono fun e w' hh => ⟨hh.1, c.below hh.2⟩) ?_
        with_reducible refine q_load 25 (.tmp 5) (.pointer (some ⟨B, 0, none⟩)) (.agg (ar .u8 32 h)) rfl (by kernel_rfl) (by kernel_rfl) (fun _ c => ld32 c.rb) ?_
        with_reducible refine q_bin .eql 25 _ _ 25 (.agg (ar .u8 32 h)) (.agg (ar .u8 32 h)) (.bool true) rfl (by kernel_rfl) (by kernel_rfl) (by kernel_rfl) (fun _ => eqg32 _ _ _ _ _) (fun _ => eq32 _ _) ?_
        with_reducible refine q_val (.bool true) (by kernel_rfl) (fun _ _ => by kernel_rfl) ?_
        with_reducible refine q_val (.bool true) (by kernel_rfl) (fun _ _ => by kernel_rfl) ?_
        with_reducible refine q_call 14 #[] (.bool true) (by kernel_rfl) (fun _ => by kernel_rfl) (fun wx c => (HLV.out wx c.old).mono fun e w' hh => ⟨hh.1, c.below hh.2⟩) ?_
        with_reducible refine q_val (.bool true) (by kernel_rfl) (fun _ _ => by kernel_rfl) ?_
        with_reducible refine q_val (.bool true) (by kernel_rfl) (fun _ _ => by kernel_rfl) ?_
        with_reducible refine wpQuiet_nil ?_
        intro w7 hC
        simp only [Act.put, List.setIfInBounds_toArray, List.set_cons_succ, List.set_cons_zero]
        have HB7 := Lib.hid hC.old
        clear hC H6
        go_wp2_with fail
        go_ret
        exact ⟨rfl, HB7.out⟩
    · have hkm' : ¬ (k : Int) < m := by omega
      obtain ⟨a', hsl, har⟩ := arg_from (a := a) (n := n) (cap := cap) (m := l) hl HF.out.2.2.1
      obtain ⟨g5, c5, w5, hap, hrd5, hse5, hck⟩ := part_of H.out HP.out HF.out.2.2.2.1 (l := l) (r := n - l) (by omega) a' (cap - l) (har w f)
      have HAP := Lib.hid hap
      have H5 := Lib.hid hck
      have WR := Lib.hid (kwr (V := V) (m := l) (n := n - l) (f := f) (some ⟨g5, 0, none⟩) c5 (by omega) HF.out.1 w5 (HT.out.below hck.old) (apt_of HT.out H.out.hV) hse5 hrd5 hck.rv)
      rw [show l + (n - l) = n by omega] at WR
      have HSN := Lib.hid (fun wx c => HSS.out B h wx V n c)
      rw [HH.out] at HSN
      clear hap hck hrd5 hse5 har
      go_upto_region 16 with fail
      refine region_list ?_
      refine wpList_val (w' := wr) rfl (.pointer (some ⟨V, 0, none⟩)) (by kernel_rfl) ?_
      refine wpList_val (w' := wr.alloc (.cells #[] 5)) rfl (.slice (some ⟨wr.heap.size, 0, none⟩) 0 0) (by kernel_rfl) ?_
      refine wpList_val (w' := wr.alloc (.cells #[] 5)) rfl (.slice a n cap) (by kernel_rfl) ?_
      refine wpList_val (w' := wr.alloc (.cells #[] 5)) rfl (.int .i64 l) (by kernel_rfl) ?_
      refine wpList_sem rfl (Instr.sliceAt 22 (.slice a n cap) (some (.int .i64 (l : Int))) none none) (.slice a' (n - l) (cap - l)) (by kernel_rfl) (hsl _) ?_
      simp only [Act.put, List.setIfInBounds_toArray, List.set_cons_succ, List.set_cons_zero]
      refine wpList_val (w' := w5) rfl (.slice (some ⟨g5, 0, none⟩) (n - l) c5) (run_app (.tmp 77) (.tmp 80) (.slice (some ⟨wr.heap.size, 0, none⟩) 0 0) (.slice a' (n - l) (cap - l)) _ (by kernel_rfl) (by kernel_rfl) (by kernel_rfl) (by kernel_rfl) HAP.out) ?_
      simp only [Act.put, List.setIfInBounds_toArray, List.set_cons_succ, List.set_cons_zero]
      go_wp2_with fail
      refine WR.out.mono ?_
      rintro e w6 ⟨rfl, hw⟩
      have H6 := Lib.hid (H5.out.wrote hw)
      clear hw WR HAP H5 H hsl
      go_wp2_with fail
      refine wp_region_quiet (C := CKs w V B h (ab f n) (n % 136)) (by kernel_rfl) (by kernel_rfl) H6.out.drew ?_
      with_reducible refine q_val (.pointer (some ⟨V, 0, none⟩)) (by kernel_rfl) (fun _ _ => by kernel_rfl) ?_
      with_reducible refine q_call 13 #[.pointer (some ⟨V, 0, none⟩)] (.agg (ar .u8 32 h)) (by kernel_rfl) (fun _ => by kernel_rfl) (fun wx c => (HSN.out wx c).mono fun e w' hh => ⟨hh.1, c.below hh.2⟩) ?_
      with_reducible refine q_load 25 (.tmp 5) (.pointer (some ⟨B, 0, none⟩)) (.agg (ar .u8 32 h)) rfl (by kernel_rfl) (by kernel_rfl) (fun _ c => ld32 c.rb) ?_
      with_reducible refine q_bin .eql 25 _ _ 25 (.agg (ar .u8 32 h)) (.agg (ar .u8 32 h)) (.bool true) rfl (by kernel_rfl) (by kernel_rfl) (by kernel_rfl) (fun _ => eqg32 _ _ _ _ _) (fun _ => eq32 _ _) ?_
      with_reducible refine q_val (.bool true) (by kernel_rfl) (fun _ _ => by kernel_rfl) ?_
      with_reducible refine q_val (.pointer (some ⟨V, 0, none⟩)) (by kernel_rfl) (fun _ _ => by kernel_rfl) ?_
      with_reducible refine q_call 13 #[.pointer (some ⟨V, 0, none⟩)] (.agg (ar .u8 32 h)) (by kernel_rfl) (fun _ => by kernel_rfl) (fun wx c => (HSN.out wx c).mono fun e w' hh => ⟨hh.1, c.below hh.2⟩) ?_
      with_reducible refine q_load 25 (.tmp 5) (.pointer (some ⟨B, 0, none⟩)) (.agg (ar .u8 32 h)) rfl (by kernel_rfl) (by kernel_rfl) (fun _ c => ld32 c.rb) ?_
      with_reducible refine q_bin .eql 25 _ _ 25 (.agg (ar .u8 32 h)) (.agg (ar .u8 32 h)) (.bool true) rfl (by kernel_rfl) (by kernel_rfl) (by kernel_rfl) (fun _ => eqg32 _ _ _ _ _) (fun _ => eq32 _ _) ?_
      with_reducible refine q_val (.bool true) (by kernel_rfl) (fun _ _ => by kernel_rfl) ?_
      with_reducible refine q_val (.bool true) (by kernel_rfl) (fun _ _ => by kernel_rfl) ?_
      with_reducible refine q_call 14 #[] (.bool true) (by kernel_rfl) (fun _ => by kernel_rfl) (fun wx c => (HLV.out wx c.old).mono fun e w' hh => ⟨hh.1, c.below hh.2⟩) ?_
      with_reducible refine q_val (.bool true) (by kernel_rfl) (fun _ _ => by kernel_rfl) ?_
      with_reducible refine q_val (.bool true) (by kernel_rfl) (fun _ _ => by kernel_rfl) ?_
      with_reducible refine wpQuiet_nil ?_
      intro w7 hC
      simp only [Act.put, List.setIfInBounds_toArray, List.set_cons_succ, List.set_cons_zero]
      have HB7 := Lib.hid hC.old
      clear hC H6
      go_wp2_with fail
      go_ret
      exact ⟨rfl, HB7.out⟩
end Go.Proofs.YtcmpnnfnkcmpcaaDoor
namespace Go.Proofs.YtcmpnnfnkcmpcaaDoor.keccakSums
open Go.ChangeShapes Go.WideShapes Go.ChangeAt Go.RowKit

set_option maxRecDepth 100000 in
theorem contract (H : Type) (enc : TypeId × Value → H) (W : World) (base : Nat) (args : Array Value) (ds gs : List (DataW H)) (before : List MemPlace)
    (hval : ∀ (j : Nat) t v, Tryd.f3.params[j]? = some t → args[j]? = some v → Value.okWide Tryd.prog W .any base t v)
    (hW : DataW.Whole enc Tryd.prog Tryd.f3.params.toList Rows.keccakSumsSpec.vars false W args.toList ds gs before) (hk : Rows.uptoSmall H (ds ++ gs) = true) (hT : KTab W) :
    Calls Tryd.prog 3 args W fun e W' => ∃ v, e = .returned v ∧ Rows.keccakSumsSpec.post enc Tryd.prog Tryd.f3 false true false false W args v W' := by
  have hW' := hW
  obtain ⟨p, q, hA0, hV, rfl, hfz, hnd⟩ := hW
  have hA : DataW.TrodAll enc Tryd.prog W 0 (fun _ => true) true Tryd.f3.params.toList args.toList ds p := hA0
  rw [Tryd.params3] at hA hval
  obtain ⟨v0, vs0, d0, ds0, p0, q0, hargs, rfl, rfl, h0, r0⟩ := trodAll_cons hA
  obtain ⟨v1, vs1, d1, ds1, p1, q1, rfl, rfl, rfl, h1, r1⟩ := trodAll_cons r0
  obtain ⟨rfl, rfl, rfl⟩ := trodAll_nil r1
  obtain rfl : args = #[v0, v1] := by cases args; simp_all
  obtain ⟨rfl, rfl⟩ := trodVars_none hV
  obtain ⟨n0, f0, A0, L0, S0⟩ := open_bytesS (hval 0 22 v0 rfl rfl) h0
  replace S0 := bulk_list hk (d := d0) (by simp) S0
  obtain ⟨n1, f1, A1, L1, S1⟩ := open_u16S (hval 1 23 v1 rfl rfl) h1
  replace S1 := bulk_list hk (d := d1) (by simp) S1
  clear hA0
  refine (ksums_any S0 L0 S1 L1 hT A0 A1).mono fun e W' ⟨he, hb⟩ => ?_
  subst he
  refine ⟨_, rfl, _, _, _, [], p0 ++ (p1 ++ []), [], hW', trodAll_cons_mk (shut_bool Tryd.underlying4 _) trodAll_mk0, trodAll_cons_mk (Below.trod laidOutF (by kernel_rfl) (of_decide_eq_true (by kernel_rfl)) h0 hb (fun x hx => hW'.lt x (by simp [hx]))) (trodAll_cons_mk (Below.trod laidOutF (by kernel_rfl) (of_decide_eq_true (by kernel_rfl)) h1 hb (fun x hx => hW'.lt x (by simp [hx]))) trodAll_mk0), rfl, hb.frame _, fun h => by cases h⟩

theorem laid_met (os : Os) : laidMet Tryd.prog Rows.keccakSumsUptoRow.laid ((laidWorld os).forCall (fun _ _ => 0) ⟨#[], #[.slice none 0 0, .slice none 0 0], []⟩).memory :=
  laidMet_of_run' 80 (by kernel_rfl) (by kernel_rfl)
theorem reads (os : Os) {H : Type} (enc : TypeId × Value → H) : ∃ places, DataW.whole enc Tryd.prog ((laidWorld os).forCall (fun _ _ => 0) ⟨#[], #[.slice none 0 0, .slice none 0 0], []⟩).memory Tryd.f3.params.toList Rows.keccakSumsSpec.vars false (#[.slice none 0 0, .slice none 0 0] : Array Value).toList 80 = some ([.nil, .nil], [], places) :=
  ⟨[], by kernel_rfl⟩

set_option maxRecDepth 100000 in
theorem lifted (os : Os) (started : os.Started) (H : Type) (enc : TypeId × Value → H) (F : Stop.Interp) :
    ReturnsInHanded {} Tryd.checked os 3 .any ((Rows.OpenSpec.upto Rows.keccakSumsSpec).preRow enc Tryd.prog Tryd.f3 Rows.keccakSumsUptoRow.domain false Rows.keccakSumsUptoRow.laid) (((Rows.OpenSpec.upto Rows.keccakSumsSpec).at F).post enc Tryd.prog Tryd.f3 false true false false) := by
  obtain ⟨places, hx⟩ := reads os enc
  refine returnsInHanded_of_row (C := Tryd.checked) (s := Rows.OpenSpec.upto Rows.keccakSumsSpec) ownF started (by kernel_rfl) Tryd.func3
    (witness_row_at (enc := enc) (C := Tryd.checked) false (laidWorld os) #[.slice none 0 0, .slice none 0 0] rfl (by kernel_rfl) (by kernel_rfl) (by kernel_rfl)
      (OpenSpec.preRow_of_cond 80 hx (by kernel_rfl) (fun k hk => by cases hk; kernel_rfl) (by kernel_rfl) (laid_met os))) ?_
  intro W base args ds gs before hval hW _ hcond _ hlaid _ _
  exact contract H enc W base args ds gs before hval hW (hcond _ rfl) (tabs_of hlaid (by simp [Rows.keccakSumsUptoRow]) (by simp [Rows.keccakSumsUptoRow]))

theorem said : Rows.KeccakSumsUptoSaid :=
  OpenClaim.holds_of_cond 3 Tryd.f3 rfl rfl rfl rfl rfl rfl rfl ⟨rfl, rfl, rfl, rfl, rfl⟩ rfl rfl rfl rfl rfl (by kernel_rfl) Tryd.func3 (by kernel_rfl)
    (of_decide_eq_true (by kernel_rfl)) (by unfold Func.isWrapper; rw [if_neg (of_decide_eq_false (by kernel_rfl))]; exact ⟨rfl, rfl⟩)
    (fun os started H enc _ F => by rw [OpenClaim.pre_eq_preRow]; exact lifted os started H enc F)

/-- No parameter wants a stand-in; the program's own looks are off: what the card asks. -/
theorem plain (f : FuncId) (fn : Func) (hf : Tryd.pinned.checked.prog.funcNamed "bailiwick/bailiwicklaw03.KeccakSums" = some f) (hfn : Tryd.pinned.checked.prog.funcs[f]? = some fn) :
    false = Tryd.pinned.checked.prog.looks [] ∧ ∀ (j : Nat) t, fn.params[j]? = some t → Tryd.pinned.checked.prog.wantsStandIn t = false := by
  obtain rfl : f = 3 := Option.some.inj ((show Tryd.prog.funcNamed "bailiwick/bailiwicklaw03.KeccakSums" = some 3 by kernel_rfl).symm.trans hf) |>.symm
  obtain rfl : fn = Tryd.f3 := (Option.some.inj (Tryd.func3.symm.trans hfn)).symm
  refine ⟨by kernel_rfl, fun j t ht => ?_⟩
  rw [Tryd.params3] at ht
  have hm := Array.mem_of_getElem? ht
  simp only [List.mem_toArray, List.mem_cons, List.not_mem_nil, or_false] at hm
  rcases hm with rfl | rfl
  · exact (show Tryd.prog.wantsStandIn 22 = false by kernel_rfl)
  · exact (show Tryd.prog.wantsStandIn 23 = false by kernel_rfl)

/-- THE CARD. -/
theorem card : Rows.KeccakSumsUptoCardSaid :=
  Claim7.holds_tied_plain_at .later [] _ _ _ _ said (fun _ h => by cases h) (by kernel_rfl) (fun _ h => by cases h) keccakSumsUpto_row_tie rfl ⟨rfl, rfl⟩ (by kernel_rfl) rfl plain (by kernel_rfl)
end Go.Proofs.YtcmpnnfnkcmpcaaDoor.keccakSums

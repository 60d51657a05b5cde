/- bailiwicklaw02.NatBytes: the statement about it: whatever the input of bulk at most 1048576: true; the input reads as it did. CONDITIONS: that bulk (its second form). (With it, merged: NOpen · NOpenS · NRFrom · NOpenY · NBytes · NRBytes · NBytesLaw · NatBytes.) -/
import Derived.Test.YtgegkffigjogcaaM4
import Derived.Test.YtgegkffigjogcaaRows
import Derived.WalkKit
import Derived.ProofKit
import Derived.OpenShut
import Derived.ChangeSlices
import Derived.Deep.DeepHandedRow
import Derived.Lib.LaidTab
import Derived.SizedLaws
import Derived.Test.YtgegkffigjogcaaM8
import Derived.Test.YtgegkffigjogcaaM9
import Derived.Test.YtgegkffigjogcaaM5
import Derived.Laws.BytesArg
import Derived.Lib.AppendZeros
namespace Go.Proofs.Ytgegkffigjogcaa
open Go.ChangeShapes Go.WideShapes Go.ChangeAt Go.RowKit

theorem ownF : ownKnob Try.prog.godebug = none := by kernel_rfl
theorem laidOutF : laidOutB Try.prog = true := by kernel_rfl
theorem cellsU32 : Try.prog.cellsOf 32 = 1 := by kernel_rfl
/-- A LIST OF NUMBERS AMONG THE ARGUMENTS. -/
theorem open_nat {H : Type} {enc : TypeId × Value → H} {W : World} {base b2 : Nat} {hd : Bool} {v : Value} {d : DataW H} {ps : List MemPlace}
    (hv : Value.okWide Try.prog W .any base 23 v) (h : DataW.Trod enc Try.prog W b2 (fun _ => true) hd 23 v d ps) : ∃ (n : Nat) (f : Nat → Nat), ArgN W v n f ∧ ∀ j, j < n → f j < 4294967296 := by
  obtain ⟨a0, len, cap, rfl⟩ := okWide_slice Try.underlying23 hv
  obtain ⟨fuel, hf⟩ := h
  rcases open_ints Try.underlying23 Try.underlying32 cellsU32 hf with ⟨hcs, -⟩ | ⟨a, len', cap', zs, hcs, -, hl, hm, hz, -, hcell, hwz⟩
  · simp [Value.cells] at hcs
    obtain ⟨rfl, rfl, rfl⟩ := hcs
    exact ⟨0, fun _ => 0, ⟨none, 0, rfl, Nat.le_refl _, fun _ => rfl, .inl rfl⟩, fun j hj => by omega⟩
  · simp [Value.cells] at hcs
    obtain ⟨rfl, rfl, rfl⟩ := hcs
    simp only [if_true] at hz
    have hr := fun j => range_u32 hwz j
    refine ⟨len, fun j => (zs.getD j 0).toNat, ⟨some a, cap, rfl, hl, (fun h => by cases h), ?_⟩, fun j hj => ?_⟩
    · rcases Nat.eq_zero_or_pos len with h0 | h0
      · exact .inl h0
      · obtain ⟨ab, ao, spot⟩ := a
        have hspot : spot = none := by simpa [Addr.add] using World.cell?_spot (hcell 0 (by omega))
        subst hspot
        refine .inr ⟨ab, ao, rfl, by simpa [Addr.add] using World.block_lt_of_cell? W _ (hcell 0 (by omega)), fun j hj => ?_⟩
        have hc := hcell j (by omega)
        rw [Addr.add_lit] at hc
        rw [hc]
        have h1 := hr j
        rw [← List.getD_eq_getElem?_getD] at h1
        show _ = some (Value.int .u32 (((zs.getD j 0).toNat : Nat) : Int))
        rw [Int.toNat_of_nonneg h1.1]
    · have h1 := hr j
      rw [← List.getD_eq_getElem?_getD] at h1
      show (zs.getD j 0).toNat < 4294967296
      omega
/-- A WORLD FOR THE WITNESS. -/
noncomputable def bareWorld (os : Os) : World := World.holding Try.prog os ⟨#[], #[], []⟩
end Go.Proofs.Ytgegkffigjogcaa
namespace Go.Proofs.Ytgegkffigjogcaa
open Go.ChangeShapes Go.WideShapes Go.ChangeAt Go.RowKit

theorem lits_len {H : Type} (k : IntKind) (zs : List Int) : (lits (H := H) k zs).length = zs.length := by simp [lits]
theorem open_natS {H : Type} {enc : TypeId × Value → H} {W : World} {base b2 : Nat} {hd : Bool} {v : Value} {d : DataW H} {ps : List MemPlace}
    (hv : Value.okWide Try.prog W .any base 23 v) (h : DataW.Trod enc Try.prog W b2 (fun _ => true) hd 23 v d ps) :
    ∃ (n : Nat) (f : Nat → Nat), ArgN W v n f ∧ (∀ j, j < n → f j < 4294967296) ∧ (n = 0 ∨ ∃ l s, d = .slice l s ∧ l.length = n) := by
  obtain ⟨a0, len, cap, rfl⟩ := okWide_slice Try.underlying23 hv
  obtain ⟨fuel, hf⟩ := h
  rcases open_ints Try.underlying23 Try.underlying32 cellsU32 hf with ⟨hcs, -⟩ | ⟨a, len', cap', zs, hcs, -, hl, hm, hz, hx, hcell, hwz⟩
  · simp [Value.cells] at hcs
    obtain ⟨rfl, rfl, rfl⟩ := hcs
    exact ⟨0, fun _ => 0, ⟨none, 0, rfl, Nat.le_refl _, fun _ => rfl, .inl rfl⟩, fun j hj => by omega, .inl rfl⟩
  · simp [Value.cells] at hcs
    obtain ⟨rfl, rfl, rfl⟩ := hcs
    simp only [if_true] at hz
    have hr := fun j => range_u32 hwz j
    have hd' : d = .slice (lits .u32 (zs.take len)) (lits .u32 (zs.drop len)) := congrArg Prod.fst hx
    refine ⟨len, fun j => (zs.getD j 0).toNat, ⟨some a, cap, rfl, hl, (fun h => by cases h), ?_⟩, fun j hj => ?_, .inr ⟨_, _, hd', by rw [lits_len, List.length_take]; omega⟩⟩
    · rcases Nat.eq_zero_or_pos len with h0 | h0
      · exact .inl h0
      · obtain ⟨ab, ao, spot⟩ := a
        have hspot : spot = none := by simpa [Addr.add] using World.cell?_spot (hcell 0 (by omega))
        subst hspot
        refine .inr ⟨ab, ao, rfl, by simpa [Addr.add] using World.block_lt_of_cell? W _ (hcell 0 (by omega)), fun j hj => ?_⟩
        have hc := hcell j (by omega)
        rw [Addr.add_lit] at hc
        rw [hc]
        have h1 := hr j
        rw [← List.getD_eq_getElem?_getD] at h1
        show _ = some (Value.int .u32 (((zs.getD j 0).toNat : Nat) : Int))
        rw [Int.toNat_of_nonneg h1.1]
    · have h1 := hr j
      rw [← List.getD_eq_getElem?_getD] at h1
      show (zs.getD j 0).toNat < 4294967296
      omega
theorem bytesU32 : Try.prog.bytesOf 32 = 4 := by kernel_rfl
/-- WHAT THE FORM's REACH SAYS of a list of numbers. -/
theorem nat_sized {H : Type} {ts : List TypeId} {ds : List (DataW H)} (h : (DataW.weightsEach Try.prog ts ds).all (· ≤ reachBytes) = true) {j : Nat} {d : DataW H} {n : Nat} (ht : ts[j]? = some 23) (hd : ds[j]? = some d) (hn : n = 0 ∨ ∃ l s, d = .slice l s ∧ l.length = n) : (n : Int) ≤ 35184372088800 := by
  rcases hn with rfl | ⟨l, s, rfl, rfl⟩
  · omega
  · have := sized_slice h ht hd Try.underlying23
    rw [bytesU32] at this
    unfold reachBytes at this
    omega
end Go.Proofs.Ytgegkffigjogcaa
namespace Go.Proofs.Ytgegkffigjogcaa
open Go.RowKit

/-- Bytes from the last one on. -/
def rv (f : Nat → Nat) (n t : Nat) : Nat := f (n - 1 - t)
theorem rv_bw (f : Nat → Nat) : ∀ n, vb 256 (rv f n) n = bw f n
  | 0 => rfl
  | n + 1 => by
    rw [vb_low]
    have e : vb 256 (fun j => rv f (n + 1) (j + 1)) n = vb 256 (rv f n) n := vb_congr (fun j hj => by unfold rv; rw [show n + 1 - 1 - (j + 1) = n - 1 - j by omega])
    rw [e, rv_bw f n]
    unfold rv
    simp only [bw]
    rw [show n + 1 - 1 - 0 = n by omega]
    omega
/-- The reference's From under way: the last k bytes are in. -/
structure RFr (w : World) (n k : Nat) (f : Nat → Nat) (v : Value) (wr : World) : Prop where
  row : ∃ g c o L, L = (k + 3) / 4 ∧ v = .slice (some ⟨g, 0, none⟩) L c ∧ wr.ownsRow w.heap.size 32 1 (.slice (some ⟨g, 0, none⟩) L c) L (pl o L) ∧ (∀ j, j < L → o j < 4294967296) ∧ vb 4294967296 o L = vb 256 (rv f n) k
  old : Below w.heap.size w wr
theorem low_part {o : Nat → Nat} {q r k X : Nat} (hk : k = 4 * q + r) (hv : vb 4294967296 o (q + 1) = X) (hX : X < 256 ^ k) : o q < 2 ^ (8 * r) := by
  simp only [vb] at hv
  have h1 : 4294967296 ^ q * o q < 256 ^ k := by omega
  rw [hk, Nat.pow_add, Nat.pow_mul, show (256 : Nat) ^ 4 = 4294967296 from rfl] at h1
  rw [← pow_256]
  exact Nat.lt_of_mul_lt_mul_left h1
theorem frm_step {f o : Nat → Nat} {n k q r x : Nat} (hk : k = 4 * q + r) (hx : rv f n k = x) (hv : vb 4294967296 o (q + 1) = vb 256 (rv f n) k) : vb 4294967296 (upd o q (o q + 2 ^ (8 * r) * x)) (q + 1) = vb 256 (rv f n) (k + 1) := by
  have h1 := vb_set 4294967296 o q (o q + 2 ^ (8 * r) * x) (q + 1) (by omega)
  have e : vb 256 (rv f n) (k + 1) = vb 256 (rv f n) k + 256 ^ k * x := by rw [← hx]; rfl
  have e2 : (256 : Nat) ^ k = 4294967296 ^ q * 2 ^ (8 * r) := by rw [hk, Nat.pow_add, Nat.pow_mul, show (256 : Nat) ^ 4 = 4294967296 from rfl, pow_256]
  rw [e, e2, ← hv]
  rw [Nat.mul_add, ← Nat.mul_assoc] at h1
  omega
theorem pl_upd {o : Nat → Nat} {L q y : Nat} (hq : q < L) : (pl o L).set q (.int .u32 ((y : Nat) : Int)) = pl (upd o q y) L := by
  apply List.ext_getElem?
  intro j
  rw [List.getElem?_set]
  by_cases h : q = j
  · subst h
    rw [if_pos rfl, if_pos (by rw [pl_len]; exact hq), pl_at _ _ _ hq]
    unfold upd; rw [if_pos rfl]
  · rw [if_neg h]
    by_cases h2 : j < L
    · rw [pl_at _ _ _ h2, pl_at _ _ _ h2]
      unfold upd; rw [if_neg (fun e => h e.symm)]
    · rw [List.getElem?_eq_none (by rw [pl_len]; omega), List.getElem?_eq_none (by rw [pl_len]; omega)]
theorem RFr.next {w wr : World} {n k g c q r x : Nat} {f o : Nat → Nat} (hk : k = 4 * q + r) (hr : r < 4) (hx : rv f n k = x) (hx2 : x < 256) (hb : ∀ j, j < n → f j < 256) (hkn : k < n)
    (hrow : wr.ownsRow w.heap.size 32 1 (.slice (some ⟨g, 0, none⟩) (q + 1) c) (q + 1) (pl o (q + 1))) (ho : ∀ j, j < q + 1 → o j < 4294967296) (hv : vb 4294967296 o (q + 1) = vb 256 (rv f n) k) (hold : Below w.heap.size w wr) (hg : w.heap.size ≤ g) :
    bits .or .u32 ((o q : Nat) : Int) ((x : Int) * 2 ^ (8 * r) % 4294967296) = ((o q + 2 ^ (8 * r) * x : Nat) : Int) ∧
    RFr w n (k + 1) f (.slice (some ⟨g, 0, none⟩) (q + 1) c) (wr.setCell ⟨g, q, none⟩ (.int .u32 ((o q + 2 ^ (8 * r) * x : Nat) : Int))) := by
  have hlt := vb_lt (P := 256) (f := rv f n) (n := k) (fun j hj => hb _ (by omega))
  have hD := low_part hk hv hlt
  have hs := shl_nat x (8 * r) (32 - 8 * r) (o q) (by omega) (by omega) hD
  have hm : x % 2 ^ (32 - 8 * r) = x := Nat.mod_eq_of_lt (Nat.lt_of_lt_of_le hx2 (by
    rw [show (256 : Nat) = 2 ^ 8 from rfl]
    exact Nat.pow_le_pow_right (by omega) (by omega)))
  rw [hm] at hs
  refine ⟨hs.1, ⟨g, c, upd o q (o q + 2 ^ (8 * r) * x), q + 1, by omega, rfl, ?_, fun j hj => ?_, frm_step hk hx hv⟩, hold.setCell hg _⟩
  · rw [← pl_upd (by omega)]
    exact (hrow.stored q _).1
  · unfold upd
    by_cases e : j = q
    · rw [if_pos e]; exact hs.2
    · rw [if_neg e]; exact ho j hj
/-- Bytes among the arguments of a call. -/
def ArgB (w : World) (v : Value) (n : Nat) (f : Nat → Nat) : Prop := ∃ (a : Option Addr) (cap : Nat), v = .slice a n cap ∧ n ≤ cap ∧ (a = none → cap = 0) ∧ RdB w a n f
theorem ArgB.below {w w' : World} {v : Value} {n : Nat} {f : Nat → Nat} (h : ArgB w v n f) (hb : Below w.heap.size w w') : ArgB w' v n f := by
  obtain ⟨a, cap, h1, h2, h3, h4⟩ := h
  exact ⟨a, cap, h1, h2, h3, h4.below hb⟩
set_option maxRecDepth 100000 in
set_option maxHeartbeats 2000000 in
-- WHAT THE REFERENCE's From COMES TO.
theorem rfrom_any {n : Nat} {f : Nat → Nat} {v : Value} {w : World} (hn : (n : Int) ≤ 100000000) (hf : ∀ j, j < n → f j < 256) (hP : ArgB w v n f) : Calls Try.prog 36 #[v] w (AnsR (cdN (bw f n)) (bw f n) w) := by
  obtain ⟨a, cap, rfl, -, -, hR⟩ := hP
  have HP := Lib.hid hR; clear hR
  have HF := Lib.hid hf; clear hf
  have CK := Lib.hid (fun V x w' (hx : AN V x w') => check_an hx)
  have PL := Lib.hid (fun V x w' (hx : AN V x w') => plain_an hx)
  obtain ⟨i0, hi, hz0, hz1, hz2⟩ := info_parts info32
  have hn0 : (0 : Int) ≤ n := by omega
  go_enter Try.func36, Try.ntmps36
  go_wp2
  go_loopw [4, 5] (fun v i wr => ∃ k : Nat, k ≤ n ∧ i = .int .i64 k ∧ Hid (RFr w n k f v wr)) (fun _ i _ => n - (intOf i).toNat)
  case atStart =>
    refine ⟨0, by omega, rfl, Lib.hid ⟨⟨_, 0, fun _ => 0, 0, rfl, rfl, ?_, fun j hj => by omega, rfl⟩, by go_grown⟩⟩
    exact World.ownsRow_made (base := w.heap.size) (e := 32) (size := 1) w #[] 0 (by simp) (by decide) (by simp)
  case round =>
    obtain ⟨k, hk, rfl, H⟩ := hrel
    have hk0 : (0 : Int) ≤ k := by omega
    have hkb : (k : Int) ≤ 100000000 := by omega
    obtain ⟨⟨g, c, o, L, hL, rfl, hrow, ho, hv⟩, hold⟩ := H.out
    by_cases hlt : k < n
    · have hlt' : (k : Int) < n := by omega
      obtain ⟨q, hq⟩ : ∃ q : Nat, (k : Int) / 4 = (q : Int) := ⟨k / 4, by omega⟩
      obtain ⟨r, hr⟩ : ∃ r : Nat, (k : Int) % 4 = (r : Int) := ⟨k % 4, by omega⟩
      obtain ⟨y, hy⟩ : ∃ y : Nat, (n : Int) - 1 - (k : Int) = (y : Int) := ⟨n - 1 - k, by omega⟩
      obtain ⟨s, hs⟩ : ∃ s : Nat, 8 * (r : Int) = (s : Int) := ⟨8 * r, by omega⟩
      have hq0 : (0 : Int) ≤ q := by omega
      have hq1 : (q : Int) < (q : Int) + 1 := by omega
      have hq2 : (q : Int) < ((q + 1 : Nat) : Int) := by omega
      have hr0 : (0 : Int) ≤ r := by omega
      have hr4 : (r : Int) < 4 := by omega
      have hy0 : (0 : Int) ≤ y := by omega
      have hyn : (y : Int) < n := by omega
      have hs0 : (0 : Int) ≤ s := by omega
      have hs1 : (s : Int) < 32 := by omega
      have hw1 : IntKind.u64.wrap (s : Int) = (s : Int) := by rw [IntKind.wrap_u64]; omega
      have hkq : k = 4 * q + r := by omega
      have hy1 : rv f n k = f y := by unfold rv; congr 1; omega
      have hs8 : 8 * r = s := by omega
      obtain ⟨p, hix, hpb, cp⟩ := HP.out.at_ cap y (by omega)
      have hfy := HF.out y (by omega)
      have hx0 : (0 : Int) ≤ ((f y : Nat) : Int) := by omega
      have hx1 : ((f y : Nat) : Int) < 256 := by omega
      have HB := Lib.hid hpb
      have HCP := Lib.hid cp
      have hgl : w.heap.size ≤ g := (hrow.lt g rfl).1
      have hgs : g < wr.heap.size := (hrow.lt g rfl).2
      clear hpb cp
      have HK := Lib.hid (And.intro hkq (And.intro hy1 (And.intro hs8 (And.intro hfy (And.intro hlt hgs)))))
      have HO := Lib.hid (And.intro ho (And.intro hv (And.intro hold hgl)))
      have HROW := Lib.hid hrow
      have hbs : w.heap.size ≤ wr.heap.size := hold.size
      by_cases hr00 : r = 0
      · obtain rfl : L = q := by omega
        have ht : ((r : Int) == 0) = true := by simp [hr00]
        clear hrow ho hv hold H hkq hy1 hs8 hfy hgl hgs hL hlt hr00
        go_wp2_with (at_builtin; refine wpList_append_lies _ rfl _ _ 23 rfl w.heap.size 32 i0 (.int .u32 0) 1 4 Try.underlying23 hi hz0 hz1 hz2 rfl (by decide) (.slice (some ⟨g, 0, none⟩) L c) L (pl o L) rfl (HROW.out.alloc _) ⟨wr.heap.size, 0, none⟩ 1 1 [.int .u32 0] rfl rfl (cell_one_new _ _ _) (by intro u hu; simp at hu; subst hu; rfl) (by omega) (by unfold maxLen; omega) (by omega) (by simp; omega) (wr.heap.size + 1) (by simp) ?_; intro g2 c2 w1 hown1 hgrow hat hlt1; (rw [pl_behind] at hown1); (have hold2 : Below w.heap.size w w1 := (HO.out.2.2.1.alloc hbs _).grown hgrow (by simp; omega) (fun j hj => by cases hj; exact HO.out.2.2.2)); (have hb2 := beh_lt (n := L) HO.out.1); (have hv2 := (beh_vb 4294967296 o L).trans HO.out.2.1); (obtain ⟨o2, ho2⟩ : ∃ o2, beh o L = o2 := ⟨_, rfl⟩); (rw [ho2] at hown1 hb2 hv2); clear ho2; (have hg2 : w.heap.size ≤ g2 := (hown1.lt g2 rfl).1); (have co := (hown1.cellAt L (by omega)).trans (pl_at o2 (L + 1) L (by omega))); (have fo := hown1.frozenAt L); (have cp := (hold2.cell HB.out).trans HCP.out); (have HN0 := RFr.next HK.out.1 (by omega) HK.out.2.1 HK.out.2.2.2.1 HF.out HK.out.2.2.2.2.1 hown1 hb2 hv2 hold2 hg2); (rw [HK.out.2.2.1] at HN0); (have HN := Lib.hid HN0); clear hown1 hgrow hat hlt1 HN0 hold2 hg2 hb2 hv2)
        go_region
        go_wp2
        go_roundw
        case rel =>
          refine ⟨k + 1, by have := HK.out; omega, by go_num, Lib.hid ?_⟩
          rw [HN.out.1]
          exact ⟨HN.out.2.row, HN.out.2.old.drew⟩
        case measure => simp [intOf]; omega
      · obtain rfl : L = q + 1 := by omega
        have ht : ((r : Int) == 0) = false := by simp [hr00]
        have co := (hrow.cellAt q (by omega)).trans (pl_at o (q + 1) q (by omega))
        have fo := hrow.frozenAt q
        have cp := (hold.cell HB.out).trans HCP.out
        have HN0 := RFr.next hkq (by omega) hy1 hfy HF.out hlt hrow ho hv hold hgl
        rw [hs8] at HN0
        have HN := Lib.hid HN0
        clear hrow ho hv hold H hkq hy1 hs8 hfy hgl hgs hL hlt hr00 HN0
        go_wp2_with fail
        go_region
        go_wp2
        go_roundw
        case rel =>
          refine ⟨k + 1, by have := HK.out; omega, by go_num, Lib.hid ?_⟩
          rw [HN.out.1]
          exact ⟨HN.out.2.row, HN.out.2.old.drew⟩
        case measure => simp [intOf]; omega
    · obtain rfl : k = n := by omega
      have hlt' : ¬ (k : Int) < k := by omega
      rw [rv_bw] at hv
      have hAN := rp_of' hrow (by omega) ho
      rw [hv] at hAN
      obtain ⟨V, hV⟩ : ∃ V, bw f k = V := ⟨_, rfl⟩
      rw [hV] at hAN
      obtain ⟨cc, hcc⟩ : ∃ cc, cdN V = cc := ⟨_, rfl⟩
      have CV := Lib.hid (fun x w' (hx : AN V x w') => CK.out V x w' hx)
      rw [hcc] at CV
      have HVV := Lib.hid (And.intro hV hcc)
      have NA := Lib.hid hAN
      have HW := Lib.hid hold
      clear hAN hv hrow ho hold H hL hV hcc
      by_cases h0 : cc = 0
      · have e0 : ((cc : Int) != 0) = false := by simp [h0]
        have H0 := Lib.hid h0
        clear h0
        go_wp2_with fail
        refine (CV.out _ _ NA.out).mono ?_
        rintro e w2 ⟨rfl, hb⟩
        replace NA := Lib.hid (NA.out.below hb)
        replace HW := Lib.hid (HW.out.trans (hb.mono HW.out.size))
        clear hb
        go_wp2_with fail
        refine (PL.out _ _ _ NA.out).mono ?_
        rintro e w3 ⟨x, rfl, hx, hb⟩
        replace HW := Lib.hid (HW.out.trans (hb.mono HW.out.size))
        have HX := Lib.hid hx
        clear hb hx
        go_wp2
        go_ret2
        rw [HVV.out.1, HVV.out.2]
        exact ⟨x, by rw [H0.out]; rfl, fun _ => HX.out, fun h => absurd H0.out h, HW.out⟩
      · have e0 : ((cc : Int) != 0) = true := by simp [h0]
        have H0 := Lib.hid h0
        clear h0
        go_wp2_with fail
        refine (CV.out _ _ NA.out).mono ?_
        rintro e w2 ⟨rfl, hb⟩
        replace HW := Lib.hid (HW.out.trans (hb.mono HW.out.size))
        clear hb
        go_wp2
        go_ret2
        rw [HVV.out.1, HVV.out.2]
        exact ⟨_, rfl, fun h => absurd h H0.out, fun _ => rfl, HW.out⟩
end Go.Proofs.Ytgegkffigjogcaa
namespace Go.Proofs.Ytgegkffigjogcaa
open Go.ChangeShapes Go.WideShapes Go.ChangeAt Go.RowKit

theorem cellsU8 : Try.prog.cellsOf 5 = 1 := by kernel_rfl
theorem range_u8' {zs : List Int} (hw : ∀ n ∈ zs, (Lit.int .u8 n).wf = true) (j : Nat) : 0 ≤ zs.getD j 0 ∧ zs.getD j 0 ≤ 255 := by
  rcases Nat.lt_or_ge j zs.length with h | h
  · have h1 := hw (zs.getD j 0) (by rw [List.getD_eq_getElem?_getD, List.getElem?_eq_getElem h]; exact List.getElem_mem h)
    simpa [Lit.wf, IntKind.min, IntKind.max, IntKind.signed, IntKind.bits] using h1
  · rw [List.getD_eq_getElem?_getD, List.getElem?_eq_none h]
    decide
theorem open_bytesS {H : Type} {enc : TypeId × Value → H} {W : World} {base b2 : Nat} {hd : Bool} {v : Value} {d : DataW H} {ps : List MemPlace}
    (hv : Value.okWide Try.prog W .any base 43 v) (h : DataW.Trod enc Try.prog W b2 (fun _ => true) hd 43 v d ps) :
    ∃ (n : Nat) (f : Nat → Nat), ArgB W v n f ∧ (∀ j, j < n → f j < 256) ∧ (n = 0 ∨ ∃ l s, d = .slice l s ∧ l.length = n) := by
  obtain ⟨a0, len, cap, rfl⟩ := okWide_slice Try.underlying43 hv
  obtain ⟨fuel, hf⟩ := h
  rcases open_ints Try.underlying43 Try.underlying5 cellsU8 hf with ⟨hcs, -⟩ | ⟨a, len', cap', zs, hcs, -, hl, hm, hz, hx, hcell, hwz⟩
  · simp [Value.cells] at hcs
    obtain ⟨rfl, rfl, rfl⟩ := hcs
    exact ⟨0, fun _ => 0, ⟨none, 0, rfl, Nat.le_refl _, fun _ => rfl, .inl rfl⟩, fun j hj => by omega, .inl rfl⟩
  · simp [Value.cells] at hcs
    obtain ⟨rfl, rfl, rfl⟩ := hcs
    simp only [if_true] at hz
    have hr := fun j => range_u8' hwz j
    have hd' : d = .slice (lits .u8 (zs.take len)) (lits .u8 (zs.drop len)) := congrArg Prod.fst hx
    refine ⟨len, fun j => (zs.getD j 0).toNat, ⟨some a, cap, rfl, hl, (fun h => by cases h), ?_⟩, fun j hj => ?_, .inr ⟨_, _, hd', by rw [lits_len, List.length_take]; omega⟩⟩
    · rcases Nat.eq_zero_or_pos len with h0 | h0
      · exact .inl h0
      · obtain ⟨ab, ao, spot⟩ := a
        have hspot : spot = none := by simpa [Addr.add] using World.cell?_spot (hcell 0 (by omega))
        subst hspot
        refine .inr ⟨ab, ao, rfl, by simpa [Addr.add] using World.block_lt_of_cell? W _ (hcell 0 (by omega)), fun j hj => ?_⟩
        have hc := hcell j (by omega)
        rw [Addr.add_lit] at hc
        rw [hc]
        have h1 := hr j
        show _ = some (Value.int .u8 (((zs.getD j 0).toNat : Nat) : Int))
        rw [Int.toNat_of_nonneg h1.1]
    · have h1 := hr j
      show (zs.getD j 0).toNat < 256
      omega
set_option maxRecDepth 100000 in
theorem open_i64 {H : Type} {enc : TypeId × Value → H} {W : World} {base b2 : Nat} {sp : Nat → Bool} {hd : Bool} {v : Value} {d : DataW H} {ps : List MemPlace}
    (hv : Value.okWide Try.prog W .any base 3 v) (h : DataW.Trod enc Try.prog W b2 sp hd 3 v d ps) : ∃ z : Int, -9223372036854775808 ≤ z ∧ z ≤ 9223372036854775807 ∧ v = .int .i64 z := by
  obtain ⟨z, rfl, -, -, w⟩ := open_int Try.underlying3 hv h
  have hw : -9223372036854775808 ≤ z ∧ z ≤ 9223372036854775807 := by simpa [Lit.wf, IntKind.min, IntKind.max, IntKind.signed, IntKind.bits] using w
  exact ⟨z, hw.1, hw.2, rfl⟩
theorem bulk_one {H : Type} (d : DataW H) : 1 ≤ Rows.uptoBulk d := by
  cases d with
  | lit l => cases l <;> simp [Rows.uptoBulk]
  | nil => simp [Rows.uptoBulk]
  | ptr d => simp [Rows.uptoBulk]
  | slice elems spare => simp [Rows.uptoBulk]
  | agg parts => simp [Rows.uptoBulk]
  | iface t d => simp [Rows.uptoBulk]
  | map entries => simp [Rows.uptoBulk]
  | held h => simp [Rows.uptoBulk]
theorem bulk_len {H : Type} (l : List (DataW H)) : l.length ≤ Rows.uptoBulkAll l := by
  induction l with
  | nil => simp [Rows.uptoBulkAll]
  | cons x r ih => have := bulk_one x; simp only [Rows.uptoBulkAll, List.length_cons]; omega
theorem bulk_in {H : Type} {d : DataW H} {l : List (DataW H)} (h : d ∈ l) : Rows.uptoBulk d ≤ Rows.uptoBulkAll l := by
  induction l with
  | nil => cases h
  | cons x r ih =>
    simp only [Rows.uptoBulkAll]
    rcases List.mem_cons.1 h with e | e
    · subst e; omega
    · have := ih e; omega
/-- WHAT THE BOUND SAYS of a list. -/
theorem bulk_list {H : Type} {ds : List (DataW H)} (hk : Rows.uptoSmall H ds = true) {d : DataW H} (hd : d ∈ ds) {n : Nat} (hn : n = 0 ∨ ∃ l s, d = .slice l s ∧ l.length = n) : n ≤ 1048576 := by
  rcases hn with rfl | ⟨l, s, rfl, rfl⟩
  · omega
  · have h1 : Rows.uptoBulkAll ds ≤ 1048576 := of_decide_eq_true hk
    have h2 := bulk_in hd
    have h3 := bulk_len l
    simp only [Rows.uptoBulk] at h2
    omega
end Go.Proofs.Ytgegkffigjogcaa
namespace Go.Proofs.Ytgegkffigjogcaa
open Go.RowKit

/-- n bytes of a block of one's own. -/
def WrB (w : World) (S n : Nat) (f : Nat → Nat) : Prop := S < w.heap.size ∧ ∀ j, j < n → w.cell? ⟨S, j, none⟩ = some (.int .u8 (f j : Nat)) ∧ w.frozen? ⟨S, j, none⟩ = false
theorem WrB.below {w w' : World} {S n : Nat} {f : Nat → Nat} (h : WrB w S n f) (hb : Below w.heap.size w w') : WrB w' S n f :=
  ⟨Nat.lt_of_lt_of_le h.1 hb.size, fun j hj => ⟨(hb.cell (p := ⟨S, j, none⟩) h.1).trans (h.2 j hj).1, (hb.frozen (p := ⟨S, j, none⟩) h.1).trans (h.2 j hj).2⟩⟩
theorem WrB.set {w : World} {S n : Nat} {f : Nat → Nat} (h : WrB w S n f) (p y : Nat) (hp : p < n) : WrB (w.setCell ⟨S, p, none⟩ (.int .u8 (y : Nat))) S n (upd f p y) := by
  have hb : But S w (w.setCell ⟨S, p, none⟩ (.int .u8 (y : Nat))) := (But.refl S w).set _ _
  refine ⟨by rw [hb.size]; exact h.1, fun j hj => ⟨?_, (hb.frozen _).trans (h.2 j hj).2⟩⟩
  unfold upd
  by_cases e : j = p
  · subst e
    rw [if_pos rfl, World.cell?_setCell_same _ _ _ (h.2 j hj).1]
  · rw [if_neg e, World.cell?_setCell_other _ _ _ _ (by intro e2; injection e2 with _ e3; exact e e3.symm)]
    exact (h.2 j hj).1
theorem info8 : (Try.prog.info? 5).map (fun i => (i.zero, i.size, i.bytes)) = some (some (.int .u8 0), 1, 1) := by kernel_rfl
theorem madeB {w w0 : World} {L : Nat} (h : w0.ownsRow w.heap.size 5 1 (.slice (some ⟨w.heap.size, 0, none⟩) L L) L (madeCells (Value.int .u8 0).cells (L * 1)).toList) (hg : w.grownBy w0 none) : WrB w0 w.heap.size L (fun _ => 0) ∧ Below w.heap.size w w0 :=
  ⟨⟨(h.lt _ rfl).2, fun j hj => ⟨(h.cellAt j (by omega)).trans (by simp [madeCells, Value.cells, hj, Nat.mod_one]), h.frozenAt j⟩⟩, (Below.refl _ _).grown hg (Nat.le_refl _) (fun k hk => by cases hk)⟩
/-- The byte at a place of a number that is told in m bytes, once k of them are written. -/
def bt (A m k j : Nat) : Nat := if m - 1 - j < k then A / 256 ^ (m - 1 - j) % 256 else 0
theorem bt_next {A m k y b : Nat} {S : Nat} {w : World} (h : WrB w S m (bt A m k)) (hy : y = m - 1 - k) (hk : k < m) (hb : b = A / 256 ^ k % 256) : WrB (w.setCell ⟨S, y, none⟩ (.int .u8 (b : Nat))) S m (bt A m (k + 1)) := by
  have h1 := h.set y b (by omega)
  refine ⟨h1.1, fun j hj => ⟨?_, (h1.2 j hj).2⟩⟩
  rw [(h1.2 j hj).1]
  congr 3
  unfold upd bt
  by_cases e : j = y
  · rw [if_pos e, if_pos (by omega), hb, show m - 1 - j = k by omega]
  · rw [if_neg e]
    by_cases e2 : m - 1 - j < k
    · rw [if_pos e2, if_pos (by omega)]
    · rw [if_neg e2, if_neg (by omega)]
theorem bt_done {A m k : Nat} {S : Nat} {w : World} (h : WrB w S m (bt A m k)) (hk : k = m ∨ A < 256 ^ k) : WrB w S m (bt A m m) := by
  refine ⟨h.1, fun j hj => ⟨?_, (h.2 j hj).2⟩⟩
  rw [(h.2 j hj).1]
  congr 3
  unfold bt
  rw [if_pos (show m - 1 - j < m by omega)]
  by_cases e : m - 1 - j < k
  · rw [if_pos e]
  · rw [if_neg e]
    rcases hk with h1 | h1
    · omega
    · rw [Nat.div_eq_of_lt (Nat.lt_of_lt_of_le h1 (Nat.pow_le_pow_right (by omega) (by omega)))]
theorem byte_at {f : Nat → Nat} {n k q r : Nat} (hf : ∀ j, j < n → f j < 4294967296) (hq : q < n) (hk : k = 4 * q + r) (hr : r < 4) : f q / 2 ^ (8 * r) % 256 = vb 4294967296 f n / 256 ^ k % 256 := by
  rw [vb_digit hf q hq]
  have e : (4294967296 : Nat) = 2 ^ (8 * r) * 2 ^ (32 - 8 * r) := by rw [← Nat.pow_add, show 8 * r + (32 - 8 * r) = 32 by omega]
  have e2 : (256 : Nat) ^ k = 4294967296 ^ q * 2 ^ (8 * r) := by rw [hk, Nat.pow_add, Nat.pow_mul, show (256 : Nat) ^ 4 = 4294967296 from rfl, pow_256]
  rw [e2, ← Nat.div_div_eq_div_mul]
  generalize vb 4294967296 f n / 4294967296 ^ q = X
  rw [e, Nat.mod_mul_right_div_self, show (256 : Nat) = 2 ^ 8 from rfl, Nat.mod_mod_of_dvd _ (Nat.pow_dvd_pow 2 (by omega))]
/-- What is told of a number's bytes. -/
def cdB (A : Nat) (z : Int) : Nat := if cdN A = 0 then (if z < 0 ∨ 4096 < z ∨ 8 * z < (blN A : Nat) then 1 else 0) else cdN A
/-- A number's m bytes. -/
def BY (A : Nat) (z : Int) (v : Value) (w : World) : Prop := ∃ S m : Nat, z = (m : Int) ∧ v = .slice (some ⟨S, 0, none⟩) m m ∧ WrB w S m (bt A m m)
theorem BY.below {A : Nat} {z : Int} {v : Value} {w w' : World} (h : BY A z v w) (hb : Below w.heap.size w w') : BY A z v w' := by
  obtain ⟨S, m, h1, h2, h3⟩ := h; exact ⟨S, m, h1, h2, h3.below hb⟩
def AnsB (c A : Nat) (z : Int) (w : World) (e : Ending) (w' : World) : Prop := ∃ v, e = .returned (.tuple #[v, .int .i64 (c : Nat)]) ∧ (c = 0 → BY A z v w') ∧ (c ≠ 0 → v = .slice none 0 0) ∧ Below w.heap.size w w'
set_option maxRecDepth 100000 in
set_option maxHeartbeats 2000000 in
-- WHAT nat.Bytes COMES TO.
theorem bytes_nn {A : Nat} {z : Int} {u : Value} {w : World} (hz0 : -9223372036854775808 ≤ z) (hz1 : z ≤ 9223372036854775807) (hA : NN A u w) : Calls Try.prog 37 #[u, .int .i64 z] w (AnsB (cdB A z) A z w) := by
  obtain ⟨a, n, ca, f, rfl, ha, hav⟩ := hA
  have HC := Lib.hid (check_nv ha)
  have HL := Lib.hid (len_nv ha)
  rw [hav] at HC HL
  unfold cdB
  obtain ⟨c, hc⟩ : ∃ c, cdN A = c := ⟨_, rfl⟩
  rw [hc] at HC ⊢
  obtain ⟨bl, hbl⟩ : ∃ bl, blN A = bl := ⟨_, rfl⟩
  rw [hbl] at HL ⊢
  clear hc
  by_cases h0 : c = 0
  · rw [if_pos h0]
    have e0 : ((c : Int) != 0) = false := by simp [h0]
    clear h0
    by_cases hbad : z < 0 ∨ 4096 < z
    · rw [if_pos (by omega)]
      clear hz0 hz1 hav ha hbl
      rcases hbad with hz | hz
      · go_enter Try.func37, Try.ntmps37
        go_wp2_with fail
        refine HC.out.mono ?_
        rintro e w' ⟨rfl, rfl⟩
        go_wp2
        go_ret2
        exact ⟨_, rfl, fun h => absurd h (by decide), fun _ => rfl, Below.refl _ _⟩
      · have hz2 : ¬ z < 0 := by omega
        go_enter Try.func37, Try.ntmps37
        go_wp2_with fail
        refine HC.out.mono ?_
        rintro e w' ⟨rfl, rfl⟩
        go_wp2
        go_ret2
        exact ⟨_, rfl, fun h => absurd h (by decide), fun _ => rfl, Below.refl _ _⟩
    · obtain ⟨m, rfl⟩ : ∃ m : Nat, z = (m : Int) := ⟨z.toNat, by omega⟩
      have hm0 : (0 : Int) ≤ m := by omega
      have hm1 : (m : Int) ≤ 4096 := by omega
      have hm2 : ¬ (m : Int) < 0 := by omega
      have hm3 : ¬ (4096 : Int) < m := by omega
      obtain ⟨m8, hm8⟩ : ∃ m8 : Nat, 8 * (m : Int) = (m8 : Int) := ⟨8 * m, by omega⟩
      clear hz0 hz1 hbad
      by_cases hl : 8 * (m : Int) < (bl : Nat)
      · rw [if_pos (.inr (.inr hl))]
        have hl' : (m8 : Int) < (bl : Int) := by omega
        clear hl hav ha hbl
        go_enter Try.func37, Try.ntmps37
        go_wp2_with fail
        refine HC.out.mono ?_
        rintro e w' ⟨rfl, rfl⟩
        go_wp2_with fail
        refine HL.out.mono ?_
        rintro e w' ⟨rfl, rfl⟩
        go_wp2
        go_ret2
        exact ⟨_, rfl, fun h => absurd h (by decide), fun _ => rfl, Below.refl _ _⟩
      · rw [if_neg (by omega)]
        have hl' : ¬ (m8 : Int) < (bl : Int) := by omega
        have hnf := ha.few
        obtain ⟨lim, hlim⟩ : ∃ lim : Nat, min (m : Int) (4 * (n : Int)) = (lim : Int) := ⟨min m (4 * n), by omega⟩
        have hl1 : lim ≤ m := by omega
        have hl2 : lim ≤ 4 * n := by omega
        have hl3 : (lim : Int) ≤ 4096 := by omega
        have hlA : lim = m ∨ A < 256 ^ lim := by
          by_cases e : lim = m
          · exact .inl e
          · refine .inr ?_
            have e2 : lim = 4 * n := by omega
            rw [e2, Nat.pow_mul, show (256 : Nat) ^ 4 = 4294967296 from rfl, ← hav]
            exact vb_lt ha.lt
        have HLA := Lib.hid hlA
        have HA := Lib.hid ha
        have HAV := Lib.hid hav
        obtain ⟨i0, hi, hz0, hz1, hz2⟩ := info_parts info8
        clear hl hbl hlA ha hav
        go_enter Try.func37, Try.ntmps37
        go_wp2_with fail
        refine HC.out.mono ?_
        rintro e w' ⟨rfl, rfl⟩
        go_wp2_with fail
        refine HL.out.mono ?_
        rintro e w' ⟨rfl, rfl⟩
        go_wp2_with (at_make; refine wpList_make_full _ rfl _ _ 43 rfl w.heap.size 5 i0 (.int .u8 0) 1 Try.underlying43 hi hz0 hz1 .i64 .i64 _ _ m rfl rfl rfl rfl (by rw [hz2]; omega) (by unfold maxLen; omega) (Nat.le_refl _) ?_; intro w0 hown0 hgrow0; (have HM := Lib.hid (madeB hown0 hgrow0)); clear hown0 hgrow0)
        go_loopw [34] (fun iv wr => ∃ k : Nat, k ≤ lim ∧ iv = .int .i64 k ∧ Hid (WrB wr w.heap.size m (bt A m k) ∧ Below w.heap.size w wr)) (fun iv _ => lim - (intOf iv).toNat)
        case atStart => exact ⟨0, Nat.zero_le _, rfl, Lib.hid ⟨⟨HM.out.1.1, fun j hj => HM.out.1.2 j hj⟩, HM.out.2⟩⟩
        case round =>
          obtain ⟨k, hk, rfl, H⟩ := hrel
          have hk0 : (0 : Int) ≤ k := by omega
          by_cases hlt : k < lim
          · have hlt' : (k : Int) < lim := by omega
            obtain ⟨y, hy⟩ : ∃ y : Nat, (m : Int) - 1 - (k : Int) = (y : Int) := ⟨m - 1 - k, by omega⟩
            obtain ⟨q, hq⟩ : ∃ q : Nat, (k : Int) / 4 = (q : Int) := ⟨k / 4, by omega⟩
            obtain ⟨r, hr⟩ : ∃ r : Nat, (k : Int) % 4 = (r : Int) := ⟨k % 4, by omega⟩
            obtain ⟨s, hs⟩ : ∃ s : Nat, (r : Int) * 8 = (s : Int) := ⟨8 * r, by omega⟩
            have hy0 : (0 : Int) ≤ y := by omega
            have hym : (y : Int) < m := by omega
            have hq0 : (0 : Int) ≤ q := by omega
            have hqn : (q : Int) < n := by omega
            have hr0 : (0 : Int) ≤ r := by omega
            have hr4 : (r : Int) < 4 := by omega
            have hs0 : (0 : Int) ≤ s := by omega
            have hs1 : (s : Int) < 32 := by omega
            obtain ⟨p, hix, hpb, -, cp⟩ := HA.out.rd.at_ ca q (by omega)
            have cb : wr.cell? p = some (.int .u32 (f q : Nat)) := (H.out.2.cell hpb).trans cp
            have co := (H.out.1.2 y (by omega)).1
            have fo := (H.out.1.2 y (by omega)).2
            obtain ⟨b, hb⟩ : ∃ b, A / 256 ^ k % 256 = b := ⟨_, rfl⟩
            have hbv : IntKind.u8.wrap (((f q : Nat) : Int) / 2 ^ s) = (b : Int) := by
              have h1 := byte_at (k := k) HA.out.lt (show q < n by omega) (show k = 4 * q + r by omega) (by omega)
              rw [HAV.out, hb, show 8 * r = s by omega] at h1
              rw [IntKind.wrap_u8, ← h1]
              simp
            have HN := Lib.hid (bt_next H.out.1 (show y = m - 1 - k by omega) (by omega) hb.symm)
            have HO := Lib.hid (H.out.2.setCell (Nat.le_refl _) (.int .u8 (b : Nat)) (p := ⟨w.heap.size, y, none⟩))
            clear hb hpb cp H
            go_wp2
            go_roundw
            case rel => exact ⟨k + 1, by omega, by go_num, Lib.hid ⟨HN.out, HO.out⟩⟩
            case measure => first | (simp [intOf]; done) | (simp [intOf]; omega)
          · obtain rfl : k = lim := by omega
            have hlt' : ¬ (k : Int) < k := by omega
            have HF := Lib.hid (And.intro (bt_done H.out.1 HLA.out) H.out.2)
            clear H
            go_wp2
            go_ret2
            exact ⟨_, rfl, fun _ => ⟨w.heap.size, m, rfl, rfl, HF.out.1⟩, fun h => absurd rfl h, HF.out.2⟩
  · rw [if_neg h0]
    have e0 : ((c : Int) != 0) = true := by simp [h0]
    have H0 := Lib.hid h0
    clear h0 hav ha hbl hz0 hz1
    go_enter Try.func37, Try.ntmps37
    go_wp2_with fail
    refine HC.out.mono ?_
    rintro e w' ⟨rfl, rfl⟩
    go_wp2
    go_ret2
    exact ⟨_, rfl, fun h => absurd h H0.out, fun _ => rfl, Below.refl _ _⟩
end Go.Proofs.Ytgegkffigjogcaa
namespace Go.Proofs.Ytgegkffigjogcaa
open Go.RowKit

def MkB (B m : Nat) (v : Value) (w : World) : Prop := ∃ S, B ≤ S ∧ v = .slice (some ⟨S, 0, none⟩) m m ∧ WrB w S m (fun _ => 0)
theorem MkB.below {B m : Nat} {v : Value} {w w' : World} (h : MkB B m v w) (hb : Below w.heap.size w w') : MkB B m v w' := by
  obtain ⟨S, h1, h2, h3⟩ := h
  exact ⟨S, h1, h2, h3.below hb⟩
set_option maxRecDepth 100000 in
set_option maxHeartbeats 4000000 in
theorem rbytes_bad {A c : Nat} {z : Int} {u : Value} {w : World} (hc : cdB A z = c) (h0 : c ≠ 0) (hA : AN A u w) : Calls Try.prog 38 #[u, .int .i64 z] w (AnsB c A z w) := by
  have HC := Lib.hid (check_an hA)
  have LE := Lib.hid (fun w' (h : AN A u w') => rlen_an h)
  have UA := Lib.hid hA
  unfold cdB at hc
  obtain ⟨k, hk⟩ : ∃ k, cdN A = k := ⟨_, rfl⟩
  rw [hk] at HC hc
  obtain ⟨bl, hbl⟩ : ∃ bl, blN A = bl := ⟨_, rfl⟩
  rw [hbl] at LE hc
  clear hA hk hbl
  by_cases hk0 : k = 0
  · rw [if_pos hk0] at hc
    have e0 : ((k : Int) != 0) = false := by simp [hk0]
    clear hk0
    by_cases hb1 : z < 0
    · rw [if_pos (.inl hb1)] at hc
      subst hc
      go_enter Try.func38, Try.ntmps38
      go_wp2_with fail
      refine HC.out.mono ?_
      rintro e wn ⟨rfl, hb⟩
      have HW := Lib.hid hb
      clear hb
      go_wp2
      go_ret2
      exact ⟨_, rfl, fun h => absurd h (by decide), fun _ => rfl, HW.out⟩
    · by_cases hb2 : 4096 < z
      · rw [if_pos (.inr (.inl hb2))] at hc
        subst hc
        go_enter Try.func38, Try.ntmps38
        go_wp2_with fail
        refine HC.out.mono ?_
        rintro e wn ⟨rfl, hb⟩
        have HW := Lib.hid hb
        clear hb
        go_wp2
        go_ret2
        exact ⟨_, rfl, fun h => absurd h (by decide), fun _ => rfl, HW.out⟩
      · by_cases hb3 : 8 * z < (bl : Nat)
        · rw [if_pos (.inr (.inr hb3))] at hc
          subst hc
          obtain ⟨m, rfl⟩ : ∃ m : Nat, z = (m : Int) := ⟨z.toNat, by omega⟩
          have hm0 : (0 : Int) ≤ m := by omega
          have hm1 : (m : Int) ≤ 4096 := by omega
          obtain ⟨m8, hm8⟩ : ∃ m8 : Nat, 8 * (m : Int) = (m8 : Int) := ⟨8 * m, by omega⟩
          have hl' : (m8 : Int) < (bl : Int) := by omega
          clear hb3 h0
          go_enter Try.func38, Try.ntmps38
          go_wp2_with fail
          refine HC.out.mono ?_
          rintro e wn ⟨rfl, hb⟩
          replace UA := Lib.hid (UA.out.below hb)
          have HW := Lib.hid hb
          clear hb
          go_wp2_with fail
          refine (LE.out _ UA.out).mono ?_
          rintro e wn ⟨rfl, hb⟩
          replace HW := Lib.hid (HW.out.trans (hb.mono HW.out.size))
          clear hb
          go_wp2
          go_ret2
          exact ⟨_, rfl, fun h => absurd h (by decide), fun _ => rfl, HW.out⟩
        · rw [if_neg (by omega)] at hc
          exact absurd hc.symm h0
  · rw [if_neg hk0] at hc
    subst hc
    have e0 : ((k : Int) != 0) = true := by simp [hk0]
    have H0 := Lib.hid hk0
    clear hk0 h0
    go_enter Try.func38, Try.ntmps38
    go_wp2_with fail
    refine HC.out.mono ?_
    rintro e wn ⟨rfl, hb⟩
    have HW := Lib.hid hb
    clear hb
    go_wp2
    go_ret2
    exact ⟨_, rfl, fun h => absurd h H0.out, fun _ => rfl, HW.out⟩
set_option maxRecDepth 100000 in
set_option maxHeartbeats 8000000 in
theorem rbytes_good {A : Nat} {z : Int} {u : Value} {w : World} (hc : cdB A z = 0) (hA : AN A u w) : Calls Try.prog 38 #[u, .int .i64 z] w (AnsB 0 A z w) := by
  have HC := Lib.hid (check_an hA)
  have LE := Lib.hid (fun w' (h : AN A u w') => rlen_an h)
  have PL := Lib.hid (fun w' (h : AN A u w') => plain_an h)
  have UA := Lib.hid hA
  unfold cdB at hc
  obtain ⟨k, hk⟩ : ∃ k, cdN A = k := ⟨_, rfl⟩
  rw [hk] at HC hc
  obtain ⟨bl, hbl⟩ : ∃ bl, blN A = bl := ⟨_, rfl⟩
  rw [hbl] at LE hc
  clear hA hk hbl
  have hk0 : k = 0 := by
    by_cases e : k = 0
    · exact e
    · rw [if_neg e] at hc; exact hc
  rw [if_pos hk0] at hc
  subst hk0
  have hgood : ¬ (z < 0 ∨ 4096 < z ∨ 8 * z < (bl : Nat)) := fun h => by rw [if_pos h] at hc; omega
  obtain ⟨m, rfl⟩ : ∃ m : Nat, z = (m : Int) := ⟨z.toNat, by omega⟩
  have hm0 : (0 : Int) ≤ m := by omega
  have hm1 : (m : Int) ≤ 4096 := by omega
  obtain ⟨m8, hm8⟩ : ∃ m8 : Nat, 8 * (m : Int) = (m8 : Int) := ⟨8 * m, by omega⟩
  have hl' : ¬ (m8 : Int) < (bl : Int) := by omega
  obtain ⟨i0, hi, hz0, hz1, hz2⟩ := info_parts info8
  clear hgood hc
  go_enter Try.func38, Try.ntmps38
  go_wp2_with fail
  refine HC.out.mono ?_
  rintro e wn ⟨rfl, hb⟩
  replace UA := Lib.hid (UA.out.below hb)
  have HW := Lib.hid hb
  clear hb HC
  go_wp2_with fail
  refine (LE.out _ UA.out).mono ?_
  rintro e w6 ⟨rfl, hb⟩
  replace UA := Lib.hid (UA.out.below hb)
  replace HW := Lib.hid (HW.out.trans (hb.mono HW.out.size))
  clear hb LE
  go_wp2_with fail
  refine region_inv (P := Try.prog) (fun wx => Below w6.heap.size w6 wx) (fun i v wx => match i with | 0 => v = .int .i64 (m : Nat) | 1 => MkB w6.heap.size m v wx | 2 => v = u | 3 => RP A v wx | 4 => MkB w6.heap.size m v wx | 5 => RP A v wx | _ => True) (fun wa wb => Below wa.heap.size wa wb) (by kernel_rfl) (by kernel_rfl) ?_ ?_ ?_ ?_
  · exact (Below.refl _ _).drew
  · intro i v wa wb hR h
    match i, h with
    | 0, h => exact h
    | 1, h => exact MkB.below h hR
    | 2, h => exact h
    | 3, h => exact RP.below h hR
    | 4, h => exact MkB.below h hR
    | 5, h => exact RP.below h hR
    | _ + 6, _ => trivial
  · refine ⟨fun a wx hC hK => ?_, fun a wx hC hK => ?_, fun a wx hC hK => ?_, fun a wx hC hK => ?_, fun a wx hC hK => ?_, fun a wx hC hK => ?_, trivial⟩
    · exact st_val (a.tmps.getD 1 undef) (by kernel_rfl) (fun h => by cases h) rfl hC (hK.1 1 (by kernel_rfl)) (Below.refl _ _)
    · have h0 : a.tmps.getD 28 undef = .int .i64 (m : Nat) := hK.2 ⟨0, .data⟩ (by simp) rfl _ rfl
      obtain ⟨w', hrun, hown, hgrow⟩ := run_make_full (P := Try.prog) wx wx.heap.size 43 5 i0 (.int .u8 0) 1 Try.underlying43 hi hz0 hz1 .i64 .i64 m (by rw [hz2]; omega) (by unfold maxLen; omega) (Nat.le_refl _)
      have hmw := madeB hown hgrow
      refine st_run _ (by kernel_rfl) ⟨_, rfl⟩ ?_ (hC.trans (hmw.2.mono hC.size)) ⟨_, hC.size, rfl, hmw.1⟩ hmw.2
      show (do let v ← Instr.makeSlice 43 (a.tmps.getD 28 undef) (a.tmps.getD 28 undef); pure (Next.value v) : Sem Next).run Try.prog wx = _
      rw [h0]
      simp only [Sem.run_bind, hrun, Result.andThen_ok, Sem.run_pure]
    · exact st_val (a.tmps.getD 0 undef) (by kernel_rfl) (fun h => by cases h) rfl hC (hK.1 0 (by kernel_rfl)) (Below.refl _ _)
    · have h0 : a.tmps.getD 30 undef = u := hK.2 ⟨2, .data⟩ (by simp) rfl _ rfl
      refine st_call 25 #[a.tmps.getD 30 undef] (by kernel_rfl) ⟨_, rfl⟩ (by kernel_rfl) ?_
      rw [h0]
      refine (PL.out wx (UA.out.below hC)).mono ?_
      rintro e w' ⟨v, rfl, hv, hb⟩
      exact ⟨v, rfl, hC.trans (hb.mono hC.size), hv, hb⟩
    · exact st_val (a.tmps.getD 29 undef) (by kernel_rfl) (fun h => by cases h) rfl hC (hK.2 ⟨1, .data⟩ (by simp) rfl _ rfl) (Below.refl _ _)
    · exact st_val (a.tmps.getD 31 undef) (by kernel_rfl) (fun h => by cases h) rfl hC (hK.2 ⟨3, .data⟩ (by simp) rfl _ rfl) (Below.refl _ _)
  · intro fv wx hC h
    have hb : Below w6.heap.size w6 wx := hC
    have h4 := h 4 _ rfl
    have h5 := h 5 _ rfl
    have HSZ := Lib.hid HW.out.size
    replace HW := Lib.hid (HW.out.trans (hb.mono HW.out.size))
    clear h hC hb
    revert h4 h5
    simp only [putAll, Act.put, List.setIfInBounds_toArray, List.set_cons_succ, List.set_cons_zero]
    generalize fv _ = y1
    generalize fv _ = y2
    generalize fv _ = y3
    generalize fv _ = y4
    generalize fv _ = y5
    generalize fv _ = y6
    intro h4 h5
    obtain ⟨S, hS, h4, hWB⟩ : MkB w6.heap.size m _ wx := h4
    obtain ⟨g, n, cx, f, h5, hnx, hvx, htx⟩ : RP A _ wx := h5
    subst h4 h5
    have HWB := Lib.hid hWB
    have HX := Lib.hid hnx
    have HV := Lib.hid hvx
    have HS := Lib.hid (Nat.le_trans HSZ.out hS)
    have hnf := hnx.few
    clear hWB hnx hvx htx hS
    try simp only [Exit.then]
    go_wp2
    go_loopw [9] (fun iv wr => ∃ k : Nat, k ≤ m ∧ iv = .int .i64 k ∧ Hid (WrB wr S m (bt A m k) ∧ Below w.heap.size w wr ∧ RdA wr (some ⟨g, 0, none⟩) n f)) (fun iv _ => m - (intOf iv).toNat)
    case atStart => exact ⟨0, Nat.zero_le _, rfl, Lib.hid ⟨⟨HWB.out.1, fun j hj => HWB.out.2 j hj⟩, HW.out, HX.out.rd⟩⟩
    case round =>
      obtain ⟨k, hk, rfl, H⟩ := hrel
      have hk0 : (0 : Int) ≤ k := by omega
      obtain ⟨q, hq⟩ : ∃ q : Nat, (k : Int) / 4 = (q : Int) := ⟨k / 4, by omega⟩
      have hq0 : (0 : Int) ≤ q := by omega
      by_cases hlt : k < m ∧ q < n
      · obtain ⟨hlt, hqn⟩ := hlt
        have hlt' : (k : Int) < m := by omega
        have hqn' : (q : Int) < n := by omega
        obtain ⟨y, hy⟩ : ∃ y : Nat, (m : Int) - 1 - (k : Int) = (y : Int) := ⟨m - 1 - k, by omega⟩
        obtain ⟨r, hr⟩ : ∃ r : Nat, (k : Int) % 4 = (r : Int) := ⟨k % 4, by omega⟩
        obtain ⟨s, hs⟩ : ∃ s : Nat, 8 * (r : Int) = (s : Int) := ⟨8 * r, by omega⟩
        have hy0 : (0 : Int) ≤ y := by omega
        have hym : (y : Int) < m := by omega
        have hr0 : (0 : Int) ≤ r := by omega
        have hr4 : (r : Int) < 4 := by omega
        have hs0 : (0 : Int) ≤ s := by omega
        have hs1 : (s : Int) < 32 := by omega
        have hws : IntKind.u64.wrap (s : Int) = (s : Int) := by rw [IntKind.wrap_u64]; omega
        obtain ⟨p, hix, hpb, ⟨p2, hp2, hp3⟩, cb⟩ := H.out.2.2.at_ cx q hqn
        obtain ⟨p0, -, -, ⟨p02, hp02, hp03⟩, cb0⟩ := H.out.2.2.at_ cx 0 (by omega)
        have hne : g ≠ S := fun e => by
          have h1 := (H.out.1.2 0 (by omega)).1
          rcases H.out.2.2 with h2 | ⟨b2, o2, h2, hp⟩
          · omega
          · injection h2 with h2
            injection h2 with h2 h3
            have h4 := hp.2 0 (by omega)
            rw [← h2, ← h3, e, h1] at h4
            cases h4
        have co := (H.out.1.2 y (by omega)).1
        have fo := (H.out.1.2 y (by omega)).2
        obtain ⟨b, hb⟩ : ∃ b, A / 256 ^ k % 256 = b := ⟨_, rfl⟩
        have hbv : IntKind.u8.wrap (((f q : Nat) : Int) / 2 ^ s) = (b : Int) := by
          have h1 := byte_at (k := k) HX.out.lt hqn (show k = 4 * q + r by omega) (by omega)
          rw [HV.out, hb, show 8 * r = s by omega] at h1
          rw [IntKind.wrap_u8, ← h1]
          simp
        have HN := Lib.hid (bt_next H.out.1 (show y = m - 1 - k by omega) hlt hb.symm)
        have HO := Lib.hid (H.out.2.1.setCell HS.out (.int .u8 (b : Nat)) (p := ⟨S, y, none⟩))
        have HR := Lib.hid (H.out.2.2.but (fun q hq => by cases hq; exact hne) ((But.refl S wr).set y (.int .u8 (b : Nat))))
        clear hb hpb hp2 hp3 hp02 hp03 cb0 H hlt hqn hne
        go_wp2
        go_roundw
        case rel => exact ⟨k + 1, by omega, by go_num, Lib.hid ⟨HN.out, HO.out, HR.out⟩⟩
        case measure => first | (simp [intOf]; done) | (simp [intOf]; omega)
      · have hdone : k = m ∨ A < 256 ^ k := by
          by_cases e : k = m
          · exact .inl e
          · refine .inr ?_
            have h1 : 4 * n ≤ k := by omega
            have h2 := vb_lt HX.out.lt
            rw [HV.out, show (4294967296 : Nat) = 256 ^ 4 from rfl, ← Nat.pow_mul] at h2
            exact Nat.lt_of_lt_of_le h2 (Nat.pow_le_pow_right (by omega) h1)
        have HF := Lib.hid (And.intro (bt_done H.out.1 hdone) H.out.2.1)
        clear H hdone
        by_cases hkm : k = m
        · subst hkm
          have h1 : ¬ (k : Int) < k := by omega
          clear hlt
          go_wp2
          go_ret2
          exact ⟨_, rfl, fun _ => ⟨S, k, rfl, rfl, HF.out.1⟩, fun h => absurd rfl h, HF.out.2⟩
        · have h1 : (k : Int) < m := by omega
          have h2 : ¬ (q : Int) < n := by omega
          clear hlt hkm
          go_wp2
          go_ret2
          exact ⟨_, rfl, fun _ => ⟨S, m, rfl, rfl, HF.out.1⟩, fun h => absurd rfl h, HF.out.2⟩
theorem rbytes_an {A : Nat} {z : Int} {u : Value} {w : World} (hA : AN A u w) : Calls Try.prog 38 #[u, .int .i64 z] w (AnsB (cdB A z) A z w) := by
  obtain ⟨c, hc⟩ : ∃ c, cdB A z = c := ⟨_, rfl⟩
  rw [hc]
  by_cases h0 : c = 0
  · subst h0; exact rbytes_good hc hA
  · exact rbytes_bad hc h0 hA
end Go.Proofs.Ytgegkffigjogcaa
namespace Go.Proofs.Ytgegkffigjogcaa
open Go.RowKit

/-- Bytes as cells. -/
def p8 (f : Nat → Nat) (n : Nat) : List Value := (List.range n).map fun j => .int .u8 (f j : Nat)
theorem p8_len (f : Nat → Nat) (n : Nat) : (p8 f n).length = n := by simp [p8]
theorem p8_at (f : Nat → Nat) (n j : Nat) (h : j < n) : (p8 f n)[j]? = some (.int .u8 (f j : Nat)) := by simp [p8, h]
theorem p8_one (f : Nat → Nat) (n : Nat) : ∀ u ∈ p8 f n, u.oneCell' = true := fun u hu => by
  unfold p8 at hu
  rw [List.mem_map] at hu
  obtain ⟨j, -, rfl⟩ := hu
  rfl
theorem p8_news {w : World} {a : Addr} {n : Nat} {f : Nat → Nat} (h : RdB w (some a) n f) : ∀ j u, (p8 f n)[j]? = some u → w.cell? (a.add j) = some u := fun j u hj => by
  have hj2 : j < n := by
    have := (List.getElem?_eq_some_iff.1 hj).1
    rwa [p8_len] at this
  rw [p8_at _ _ _ hj2] at hj
  cases hj
  rcases h with h | ⟨b, o, e, h1, h2⟩
  · omega
  · injection e with e
    subst e
    have h := h2 j hj2
    cases j with
    | zero => simpa [Addr.add] using h
    | succ j => simpa [Addr.add] using h
theorem own_rdb {w : World} {base n : Nat} {v : Value} {f : Nat → Nat} (h : w.ownsRow base 5 1 v n (p8 f n)) : ∃ a c, v = .slice a n c ∧ n ≤ c ∧ RdB w a n f := by
  rcases h.2 with ⟨h1, h2⟩ | ⟨g, cap, cur, h1, hb, hc, hnc, hm, hcs, ht⟩
  · subst h2
    exact ⟨none, 0, h1, Nat.le_refl _, .inl rfl⟩
  · refine ⟨_, cap, h1, hnc, .inr ⟨g, 0, rfl, (Array.getElem?_eq_some_iff.1 hc).1, fun j hj => ?_⟩⟩
    rw [Nat.zero_add, cell_of_row _ _ _ _ _ _ hc, ← p8_at f n j hj, ← ht]
    simp only [Nat.mul_one, List.getElem?_take, hj, if_true]
    simp
/-- A copy of bytes. -/
theorem copy_run {w : World} {v : Value} {n : Nat} {f : Nat → Nat} (h : ArgB w v n f) (hn : (n : Int) ≤ 100000000) (ty : TypeId) : ∃ a c w', (Builtin.append_ #[43, 43] ty #[.slice (some ⟨w.heap.size, 0, none⟩) 0 0, v]).run Try.prog (w.alloc (.cells #[] 5)) = .ok (.slice a n c) w' ∧ n ≤ c ∧ RdB w' a n f ∧ Below w.heap.size w w' := by
  obtain ⟨i0, hi, hz0, hz1, hz2⟩ := info_parts info8
  have hmade := World.ownsRow_made (base := w.heap.size) (e := 5) (size := 1) w #[] 0 (by simp) (by decide) (by simp)
  have ha : Below w.heap.size w (w.alloc (.cells #[] 5)) := (Below.refl _ _).alloc (Nat.le_refl _) _
  obtain ⟨a, cap, rfl, hc, hn0, hr⟩ := h
  cases a with
  | none =>
    have h0 := hn0 rfl
    subst h0
    obtain rfl : n = 0 := by omega
    exact ⟨_, 0, _, run_append_owned_none (P := Try.prog) _ w.heap.size 43 ty 5 i0 1 Try.underlying43 hi _ 0 _ hmade, Nat.le_refl _, .inl rfl, ha⟩
  | some q =>
    obtain ⟨v', w', hr, hown, hg, -⟩ := run_append_own (P := Try.prog) (w := w.alloc (.cells #[] 5)) w.heap.size 43 ty 5 i0 (.int .u8 0) 1 1 Try.underlying43 hi hz0 hz1 hz2 rfl (by decide) _ 0 _ hmade q n cap (p8 f n) (by rw [p8_len, Nat.mul_one]) (p8_news (hr.below ha)) (p8_one f n) (by unfold maxLen; omega) (by omega) (by simp)
    have hown2 : w'.ownsRow w.heap.size 5 1 v' n (p8 f n) := by simpa using hown
    obtain ⟨a', c', rfl, h1, h2⟩ := own_rdb hown2
    exact ⟨a', c', w', hr, h1, h2, ha.grown hg (by simp) (fun j hj => by cases hj; exact Nat.le_refl _)⟩
theorem from_slice {w : World} {a : Option Addr} {n c : Nat} {f : Nat → Nat} (hn : (n : Int) ≤ 100000000) (hc : n ≤ c) (hf : ∀ j, j < n → f j < 256) (h : RdB w a n f) : Calls Try.prog 35 #[.slice a n c] w fun e w' => ∃ v, e = .returned (.tuple #[v, .int .i64 (cdN (bw f n) : Nat)]) ∧ PV (vz (cdN (bw f n)) (bw f n)) v w' ∧ Below w.heap.size w w' :=
  (from_any a n c f (by omega) hc hf w h).mono fun e w' h => ans_vz h
theorem an_nil (w : World) : AN 0 (.slice none 0 0) w := ⟨0, fun _ => 0, ⟨none, 0, rfl, Nat.le_refl _, fun _ => rfl, .inl rfl⟩, by omega, fun j hj => by omega, rfl⟩
theorem ansr_an {c V : Nat} {w w' : World} {e : Ending} (h : AnsR c V w e w') : ∃ v, e = .returned (.tuple #[v, .int .i64 (c : Nat)]) ∧ PV (vz c V) v w' ∧ AN (vz c V) v w' ∧ Below w.heap.size w w' := by
  obtain ⟨v, rfl, h1, h2, h3⟩ := h
  unfold vz
  by_cases e : c = 0
  · rw [if_pos e]; exact ⟨v, rfl, (h1 e).pv, (h1 e).an, h3⟩
  · rw [if_neg e, h2 e]; exact ⟨_, rfl, pv_nil _, an_nil _, h3⟩
/-- Bytes that are told, or none. -/
def SB (A c : Nat) (z : Int) (v : Value) (w : World) : Prop := (c = 0 ∧ BY A z v w) ∨ (c ≠ 0 ∧ v = .slice none 0 0)
theorem SB.below {A c : Nat} {z : Int} {v : Value} {w w' : World} (h : SB A c z v w) (hb : Below w.heap.size w w') : SB A c z v w' := by
  rcases h with ⟨h1, h2⟩ | h
  · exact .inl ⟨h1, h2.below hb⟩
  · exact .inr h
/-- .. as a text. -/
def strX (A c : Nat) (z : Int) : ByteArray := if c = 0 then strOfNums ((List.range z.toNat).map fun j => ((bt A z.toNat z.toNat j : Nat) : Int)) else ByteArray.empty
theorem SB.run {A c : Nat} {z : Int} {v : Value} {w : World} (h : SB A c z v w) : (convert 43 9 v).run Try.prog w = .ok (.string (strX A c z)) w := by
  rcases h with ⟨h1, S, m, h2, rfl, h3⟩ | ⟨h1, rfl⟩
  · unfold strX
    rw [if_pos h1, h2, Int.toNat_natCast]
    refine run_convert_bytes_arg (P := Try.prog) w 43 5 Try.underlying43 Try.underlying5 S 0 m m _ (by simp) (fun i hi => ?_) 9 Try.underlying9
    rw [Nat.zero_add, (h3.2 i hi).1]
    simp [hi]
  · unfold strX
    rw [if_neg h1]
    exact run_convert_bytes_nil (P := Try.prog) w 43 5 Try.underlying43 Try.underlying5 0 0 9 Try.underlying9
theorem ansb_sb {c A : Nat} {z : Int} {w w' : World} {e : Ending} (h : AnsB c A z w e w') : ∃ v, e = .returned (.tuple #[v, .int .i64 (c : Nat)]) ∧ SB A c z v w' ∧ Below w.heap.size w w' := by
  obtain ⟨v, rfl, h1, h2, h3⟩ := h
  by_cases e : c = 0
  · exact ⟨v, rfl, .inl ⟨e, h1 e⟩, h3⟩
  · exact ⟨v, rfl, .inr ⟨e, h2 e⟩, h3⟩
theorem bw_bt {A m : Nat} (h : A < 256 ^ m) : bw (bt A m m) m = A := by
  rw [← rv_bw]
  have e : vb 256 (rv (bt A m m) m) m = vb 256 (fun j => A / 256 ^ j % 256) m := vb_congr (fun j hj => by
    unfold rv bt
    rw [show m - 1 - (m - 1 - j) = j by omega, if_pos hj])
  rw [e, vb_mod, Nat.mod_eq_of_lt h]
theorem bl_lt {A m : Nat} (h : blN A ≤ 8 * m) : A < 256 ^ m := by
  have h1 : A < 2 ^ blN A := by
    by_cases e : A = 0
    · rw [e]; exact Nat.pow_pos (by omega)
    · unfold blN
      rw [if_neg e]
      exact (Nat.log2_lt e).1 (Nat.lt_succ_self _)
  rw [show (256 : Nat) = 2 ^ 8 from rfl, ← Nat.pow_mul]
  exact Nat.lt_of_lt_of_le h1 (Nat.pow_le_pow_right (by omega) h)
theorem from_by {A : Nat} {z : Int} {v : Value} {w : World} (hc : cdB A z = 0) (h : BY A z v w) : Calls Try.prog 35 #[v] w fun e w' => ∃ u, e = .returned (.tuple #[u, .int .i64 0]) ∧ PV A u w' ∧ Below w.heap.size w w' := by
  obtain ⟨S, m, rfl, rfl, h3⟩ := h
  have h0 : cdN A = 0 := by
    unfold cdB at hc
    by_cases e : cdN A = 0
    · exact e
    · rw [if_neg e] at hc; exact hc
  unfold cdB at hc
  rw [if_pos h0] at hc
  have hg : ¬ ((m : Int) < 0 ∨ 4096 < (m : Int) ∨ 8 * (m : Int) < (blN A : Nat)) := fun h => by rw [if_pos h] at hc; omega
  have hA : A < 256 ^ m := bl_lt (by omega)
  have hf := from_any (some ⟨S, 0, none⟩) m m (bt A m m) (by omega) (Nat.le_refl _) (fun j _ => by unfold bt; split <;> omega) w (.inr ⟨S, 0, rfl, h3.1, fun j hj => by rw [Nat.zero_add]; exact (h3.2 j hj).1⟩)
  rw [bw_bt hA, h0] at hf
  exact hf.mono fun e w' ⟨u, h1, h2, h4, h5⟩ => ⟨u, h1, h2 rfl, h5⟩
theorem vz_lim {c V : Nat} (hc : c = cdN V) : vz c V < LIM := by
  unfold vz
  by_cases e : c = 0
  · rw [if_pos e]; exact cd_zero (hc ▸ e)
  · rw [if_neg e]
    obtain ⟨k, hk, e2⟩ := lim_pow
    rw [e2]
    exact Nat.pow_pos (by omega)
set_option maxRecDepth 100000 in
set_option maxHeartbeats 8000000 in
theorem nbytes_any {w : World} {v0 v1 : Value} {n0 n1 : Nat} {f0 f1 : Nat → Nat} (h0 : ArgN w v0 n0 f0) (h1 : ArgB w v1 n1 f1)
    (l0 : ∀ j, j < n0 → f0 j < 4294967296) (l1 : ∀ j, j < n1 → f1 j < 256) (s0 : n0 ≤ 1048576) (s1 : n1 ≤ 1048576) (z : Int) (hz0 : -9223372036854775808 ≤ z) (hz1 : z ≤ 9223372036854775807) :
    Calls Try.prog 8 #[v0, v1, .int .i64 z] w fun e w' => e = .returned (.bool true) ∧ Below w.heap.size w w' := by
  have hA : AN (vb 4294967296 f0 n0) v0 w := ⟨n0, f0, h0, by omega, l0, rfl⟩
  have hAl := vb_lt l0
  obtain ⟨K, hK, eL⟩ := lim_pow
  obtain ⟨J, hJ1, hJ2, hJ3⟩ : ∃ J, n0 ≤ J ∧ K ≤ J ∧ J ≤ 2000000 := ⟨max n0 K, by omega, by omega, by omega⟩
  obtain ⟨A, eA⟩ : ∃ A, vb 4294967296 f0 n0 = A := ⟨_, rfl⟩
  rw [eA] at hA hAl
  have kA : A < 4294967296 ^ J := Nat.lt_of_lt_of_le hAl (Nat.pow_le_pow_right (by omega) hJ1)
  have CR := Lib.hid (copy_run h1 (by omega) 43)
  have FR := Lib.hid (fun a c w' (hc : n1 ≤ c) (h : RdB w' a n1 f1) => from_slice (by omega) hc l1 h)
  have RF := Lib.hid (fun w' (h : ArgB w' v1 n1 f1) => (rfrom_any (by omega) l1 h).mono fun e w'' h => ansr_an h)
  obtain ⟨V, hV⟩ : ∃ V, bw f1 n1 = V := ⟨_, rfl⟩
  rw [hV] at FR RF
  obtain ⟨cf, hcf⟩ : ∃ c, cdN V = c := ⟨_, rfl⟩
  rw [hcf] at FR RF
  have kY : vz cf V < 4294967296 ^ J := Nat.lt_of_lt_of_le (by rw [← eL]; exact vz_lim hcf.symm) (Nat.pow_le_pow_right (by omega) hJ2)
  obtain ⟨Y, hY⟩ : ∃ Y, vz cf V = Y := ⟨_, rfl⟩
  rw [hY] at FR RF kY
  have BB := Lib.hid (fun x w' (hx : NN A x w') => (bytes_nn hz0 hz1 hx).mono fun e w'' h => ansb_sb h)
  have RB := Lib.hid (fun x w' (hx : AN A x w') => (rbytes_an (z := z) hx).mono fun e w'' h => ansb_sb h)
  have FB := Lib.hid (fun v w' (hc : cdB A z = 0) (h : BY A z v w') => from_by hc h)
  obtain ⟨cb, hcb⟩ : ∃ c, cdB A z = c := ⟨_, rfl⟩
  rw [hcb] at BB RB
  have CM := Lib.hid (fun x y w' (hx : NN A x w') (hy : NN Y y w') => cmp_nn hx hy)
  have RC := Lib.hid (fun x y w' (hx : AN A x w') (hy : AN Y y w') => rcmp_an hJ3 kA kY hx hy)
  obtain ⟨s, hs⟩ : ∃ s, sgn A Y = s := ⟨_, rfl⟩
  rw [hs] at CM RC
  have UA := Lib.hid hA
  have UB := Lib.hid h1
  have HCB := Lib.hid hcb
  have e1 : ((cf : Int) != cf) = false := by simp
  have e2 : ((cb : Int) != cb) = false := by simp
  have e3 : (s != s) = false := by simp
  clear hA hAl eA kA kY hV hcf hY hcb hs h0 h1 l0 l1 s0 s1 hJ1 hJ2 hJ3 hK eL hz0 hz1
  go_enter Try.func8, Try.ntmps8
  obtain ⟨a1, c1, w1, hrun, hc1, hrd, hb⟩ := CR.out
  have HR := Lib.hid hrun
  have RD := Lib.hid (And.intro hc1 hrd)
  replace UA := Lib.hid (UA.out.below hb)
  replace UB := Lib.hid (UB.out.below hb)
  have HW := Lib.hid hb
  clear hrun hc1 hrd hb CR
  go_wp2_with (at_builtin; refine Go.Lib.wpList_append_run _ rfl _ _ 43 43 rfl _ _ rfl rfl _ _ HR.out ?_)
  clear HR
  refine (FR.out _ _ _ RD.out.1 RD.out.2).mono ?_
  rintro e wn ⟨x1, rfl, hx, hb⟩
  replace UA := Lib.hid (UA.out.below hb)
  replace UB := Lib.hid (UB.out.below hb)
  replace HW := Lib.hid (HW.out.trans (hb.mono HW.out.size))
  have P1 := Lib.hid hx
  clear hx hb RD FR
  go_wp2_with fail
  refine (RF.out _ UB.out).mono ?_
  rintro e wn ⟨x2, rfl, hx, hy, hb⟩
  replace UA := Lib.hid (UA.out.below hb)
  replace P1 := Lib.hid (P1.out.below hb)
  replace HW := Lib.hid (HW.out.trans (hb.mono HW.out.size))
  have P2 := Lib.hid (hx)
  have UY := Lib.hid (hy)
  clear hb UB
  clear hx hy RF
  go_wp2_with fail
  refine (own_an UA.out).mono ?_
  rintro e wn ⟨x3, rfl, hx, hb⟩
  replace UA := Lib.hid (UA.out.below hb)
  replace P1 := Lib.hid (P1.out.below hb)
  replace P2 := Lib.hid (P2.out.below hb)
  replace UY := Lib.hid (UY.out.below hb)
  replace HW := Lib.hid (HW.out.trans (hb.mono HW.out.size))
  have Nx3 := Lib.hid (hx)
  clear hb
  clear hx
  go_wp2_with fail
  refine (BB.out _ _ Nx3.out).mono ?_
  rintro e wn ⟨x4, rfl, hx, hb⟩
  replace UA := Lib.hid (UA.out.below hb)
  replace P1 := Lib.hid (P1.out.below hb)
  replace P2 := Lib.hid (P2.out.below hb)
  replace UY := Lib.hid (UY.out.below hb)
  replace HW := Lib.hid (HW.out.trans (hb.mono HW.out.size))
  have S4 := Lib.hid (hx)
  clear hb Nx3
  clear hx
  go_wp2_with fail
  refine (RB.out _ _ UA.out).mono ?_
  rintro e wn ⟨x5, rfl, hx, hb⟩
  replace UA := Lib.hid (UA.out.below hb)
  replace P1 := Lib.hid (P1.out.below hb)
  replace P2 := Lib.hid (P2.out.below hb)
  replace UY := Lib.hid (UY.out.below hb)
  replace S4 := Lib.hid (S4.out.below hb)
  replace HW := Lib.hid (HW.out.trans (hb.mono HW.out.size))
  have S5 := Lib.hid (hx)
  clear hb
  clear hx
  go_wp2_with fail
  refine (same_nn P1.out P2.out).mono ?_
  rintro e wn ⟨rfl, hb⟩
  replace UA := Lib.hid (UA.out.below hb)
  replace UY := Lib.hid (UY.out.below hb)
  replace S4 := Lib.hid (S4.out.below hb)
  replace S5 := Lib.hid (S5.out.below hb)
  replace HW := Lib.hid (HW.out.trans (hb.mono HW.out.size))
  clear hb P1 P2
  have r4 := S4.out.run
  have r5 := S5.out.run
  go_wp2_with fail
  refine (own_an UA.out).mono ?_
  rintro e wn ⟨x6, rfl, hx, hb⟩
  replace UA := Lib.hid (UA.out.below hb)
  replace UY := Lib.hid (UY.out.below hb)
  replace S4 := Lib.hid (S4.out.below hb)
  replace S5 := Lib.hid (S5.out.below hb)
  replace HW := Lib.hid (HW.out.trans (hb.mono HW.out.size))
  have Nx6 := Lib.hid (hx)
  clear hb
  clear hx r4 r5
  go_wp2_with fail
  refine (own_an UY.out).mono ?_
  rintro e wn ⟨x7, rfl, hx, hb⟩
  replace UA := Lib.hid (UA.out.below hb)
  replace UY := Lib.hid (UY.out.below hb)
  replace S4 := Lib.hid (S4.out.below hb)
  replace S5 := Lib.hid (S5.out.below hb)
  replace Nx6 := Lib.hid (Nx6.out.below hb)
  replace HW := Lib.hid (HW.out.trans (hb.mono HW.out.size))
  have Nx7 := Lib.hid (hx)
  clear hb
  clear hx
  go_wp2_with fail
  refine (CM.out _ _ _ Nx6.out Nx7.out).mono ?_
  rintro e wn ⟨rfl, hb⟩
  replace UA := Lib.hid (UA.out.below hb)
  replace UY := Lib.hid (UY.out.below hb)
  replace S4 := Lib.hid (S4.out.below hb)
  replace S5 := Lib.hid (S5.out.below hb)
  replace HW := Lib.hid (HW.out.trans (hb.mono HW.out.size))
  clear hb Nx6 Nx7
  go_wp2_with fail
  refine (RC.out _ _ _ UA.out UY.out).mono ?_
  rintro e wn ⟨rfl, hb⟩
  replace UA := Lib.hid (UA.out.below hb)
  replace S4 := Lib.hid (S4.out.below hb)
  replace S5 := Lib.hid (S5.out.below hb)
  replace HW := Lib.hid (HW.out.trans (hb.mono HW.out.size))
  clear hb UY
  by_cases hcb0 : cb = 0
  · have e5 : ((cb : Int) == 0) = true := by simp [hcb0]
    have hby : BY A z x4 wn := by
      rcases S4.out with h | h
      · exact h.2
      · exact absurd hcb0 h.1
    have HBY := Lib.hid hby
    have HC0 : Hid (cdB A z = 0) := Lib.hid (HCB.out.trans hcb0)
    clear hby hcb0
    go_wp2_with fail
    refine (FB.out _ _ HC0.out HBY.out).mono ?_
    rintro e wn ⟨x8, rfl, hx, hb⟩
    replace UA := Lib.hid (UA.out.below hb)
    replace HW := Lib.hid (HW.out.trans (hb.mono HW.out.size))
    have P8 := Lib.hid (hx)
    clear hb
    clear hx
    go_wp2_with fail
    refine (plain_an UA.out).mono ?_
    rintro e wn ⟨x9, rfl, hx, hb⟩
    replace UA := Lib.hid (UA.out.below hb)
    replace P8 := Lib.hid (P8.out.below hb)
    replace HW := Lib.hid (HW.out.trans (hb.mono HW.out.size))
    have P9 := Lib.hid (hx)
    clear hb
    clear hx
    go_wp2_with fail
    refine (same_nn P8.out P9.out.pv).mono ?_
    rintro e wn ⟨rfl, hb⟩
    replace UA := Lib.hid (UA.out.below hb)
    replace HW := Lib.hid (HW.out.trans (hb.mono HW.out.size))
    clear hb P8 P9
    go_wp2_with fail
    refine (lives_any _).mono ?_
    rintro e wn ⟨rfl, hb⟩
    replace UA := Lib.hid (UA.out.below hb)
    replace HW := Lib.hid (HW.out.trans (hb.mono HW.out.size))
    clear hb
    go_wp2
    go_ret
    exact ⟨rfl, HW.out⟩
  · have e5 : ((cb : Int) == 0) = false := by simp [hcb0]
    clear hcb0
    go_wp2_with fail
    refine (lives_any _).mono ?_
    rintro e wn ⟨rfl, hb⟩
    replace HW := Lib.hid (HW.out.trans (hb.mono HW.out.size))
    clear hb
    go_wp2
    go_ret
    exact ⟨rfl, HW.out⟩
end Go.Proofs.Ytgegkffigjogcaa
namespace Go.Proofs.Ytgegkffigjogcaa.natBytes
open Go.ChangeShapes Go.WideShapes Go.ChangeAt Go.RowKit

set_option maxRecDepth 100000 in
theorem contract (H : Type) (enc : TypeId × Value → H) (W : World) (base : Nat) (args : Array Value) (ds gs : List (DataW H)) (before : List MemPlace)
    (hval : ∀ (j : Nat) t v, Try.f8.params[j]? = some t → args[j]? = some v → Value.okWide Try.prog W .any base t v)
    (hW : DataW.Whole enc Try.prog Try.f8.params.toList Rows.natBytesSpec.vars false W args.toList ds gs before) (hk : Rows.uptoSmall H (ds ++ gs) = true) :
    Calls Try.prog 8 args W fun e W' => ∃ v, e = .returned v ∧ Rows.natBytesSpec.post enc Try.prog Try.f8 false true false false W args v W' := by
  have hW' := hW
  obtain ⟨p, q, hA0, hV, rfl, hfz, hnd⟩ := hW
  have hA : DataW.TrodAll enc Try.prog W 0 (fun _ => true) true Try.f8.params.toList args.toList ds p := hA0
  rw [Try.params8] at hA hval
  obtain ⟨v0, vs0, d0, ds0, p0, q0, hargs, rfl, rfl, h0, r0⟩ := trodAll_cons hA
  obtain ⟨v1, vs1, d1, ds1, p1, q1, rfl, rfl, rfl, h1, r1⟩ := trodAll_cons r0
  obtain ⟨v2, vs2, d2, ds2, p2, q2, rfl, rfl, rfl, h2, r2⟩ := trodAll_cons r1
  obtain ⟨rfl, rfl, rfl⟩ := trodAll_nil r2
  obtain rfl : args = #[v0, v1, v2] := by cases args; simp_all
  obtain ⟨rfl, rfl⟩ := trodVars_none hV
  obtain ⟨n0, f0, A0, L0, S0⟩ := open_natS (hval 0 23 v0 rfl rfl) h0
  obtain ⟨n1, f1, A1, L1, S1⟩ := open_bytesS (hval 1 43 v1 rfl rfl) h1
  obtain ⟨x2, L2, M2, rfl⟩ := open_i64 (hval 2 3 v2 rfl rfl) h2
  replace S0 := bulk_list hk (d := d0) (by simp) S0
  replace S1 := bulk_list hk (d := d1) (by simp) S1
  clear hA0
  refine (nbytes_any A0 A1 L0 L1 S0 S1 x2 L2 M2).mono fun e W' ⟨he, hb⟩ => ?_
  subst he
  refine ⟨_, rfl, _, _, _, [], p0 ++ (p1 ++ (p2 ++ [])), [], hW', trodAll_cons_mk (shut_bool Try.underlying4 _) trodAll_mk0, trodAll_cons_mk (Below.trod laidOutF (by kernel_rfl) (of_decide_eq_true (by kernel_rfl)) h0 hb (fun x hx => hW'.lt x (by simp [hx]))) (trodAll_cons_mk (Below.trod laidOutF (by kernel_rfl) (of_decide_eq_true (by kernel_rfl)) h1 hb (fun x hx => hW'.lt x (by simp [hx]))) (trodAll_cons_mk (Below.trod laidOutF (by kernel_rfl) (of_decide_eq_true (by kernel_rfl)) h2 hb (fun x hx => hW'.lt x (by simp [hx]))) trodAll_mk0)), rfl, hb.frame _, fun h => by cases h⟩

theorem laid_met (os : Os) : laidMet Try.prog Rows.natBytesUptoRow.laid ((bareWorld os).forCall (fun _ _ => 0) ⟨#[], #[.slice none 0 0, .slice none 0 0, .int .i64 0], []⟩).memory :=
  laidMet_of_run' 80 (by kernel_rfl) (by kernel_rfl)
theorem reads (os : Os) {H : Type} (enc : TypeId × Value → H) : ∃ places, DataW.whole enc Try.prog ((bareWorld os).forCall (fun _ _ => 0) ⟨#[], #[.slice none 0 0, .slice none 0 0, .int .i64 0], []⟩).memory Try.f8.params.toList Rows.natBytesSpec.vars false (#[.slice none 0 0, .slice none 0 0, .int .i64 0] : Array Value).toList 80 = some ([.nil, .nil, .lit (.int .i64 0)], [], places) :=
  ⟨[], by kernel_rfl⟩

set_option maxRecDepth 100000 in
theorem lifted (os : Os) (started : os.Started) (H : Type) (enc : TypeId × Value → H) (F : Stop.Interp) :
    ReturnsInHanded {} Try.checked os 8 .any ((Rows.OpenSpec.upto Rows.natBytesSpec).preRow enc Try.prog Try.f8 Rows.natBytesUptoRow.domain false Rows.natBytesUptoRow.laid) (((Rows.OpenSpec.upto Rows.natBytesSpec).at F).post enc Try.prog Try.f8 false true false false) := by
  obtain ⟨places, hx⟩ := reads os enc
  refine returnsInHanded_of_row (C := Try.checked) (s := Rows.OpenSpec.upto Rows.natBytesSpec) ownF started (by kernel_rfl) Try.func8
    (witness_row_at (enc := enc) (C := Try.checked) false (bareWorld os) #[.slice none 0 0, .slice none 0 0, .int .i64 0] rfl (by kernel_rfl) (by kernel_rfl) (by kernel_rfl)
      (OpenSpec.preRow_of_cond 80 hx (by kernel_rfl) (fun k hk => by cases hk; kernel_rfl) (by kernel_rfl) (laid_met os))) ?_
  intro W base args ds gs before hval hW _ hcond _ _ _ _
  exact contract H enc W base args ds gs before hval hW (hcond _ rfl)

theorem said : Rows.NatBytesUptoSaid :=
  OpenClaim.holds_of_cond 8 Try.f8 rfl rfl rfl rfl rfl rfl rfl ⟨rfl, rfl, rfl, rfl, rfl⟩ rfl rfl rfl rfl rfl (by kernel_rfl) Try.func8 (by kernel_rfl)
    (of_decide_eq_true (by kernel_rfl)) (by unfold Func.isWrapper; rw [if_neg (of_decide_eq_false (by kernel_rfl))]; exact ⟨rfl, rfl⟩)
    (fun os started H enc _ F => by rw [OpenClaim.pre_eq_preRow]; exact lifted os started H enc F)
end Go.Proofs.Ytgegkffigjogcaa.natBytes

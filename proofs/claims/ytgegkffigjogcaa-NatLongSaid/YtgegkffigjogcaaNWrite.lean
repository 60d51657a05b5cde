/- What nat.addTo and nat.takeFrom come to, called with a list of its own and any other. -/
import Derived.Test.YtgegkffigjogcaaNLeaf
namespace Go.Proofs.Ytgegkffigjogcaa
open Go.RowKit

/-- Nothing has turned but cells of block S. -/
structure But (S : Nat) (w w' : World) : Prop where
  os : w'.os = w.os
  tape : w'.tape = w.tape
  output : w'.output = w.output
  size : w'.heap.size = w.heap.size
  block : ∀ k, k ≠ S → w'.heap[k]? = w.heap[k]?
  frozen : ∀ j, w'.frozen? ⟨S, j, none⟩ = w.frozen? ⟨S, j, none⟩
theorem But.refl (S : Nat) (w : World) : But S w w := ⟨rfl, rfl, rfl, rfl, fun _ _ => rfl, fun _ => rfl⟩
theorem But.set {S : Nat} {w w' : World} (h : But S w w') (j : Nat) (u : Value) : But S w (w'.setCell ⟨S, j, none⟩ u) :=
  ⟨h.os, h.tape, h.output, by simp [h.size], fun k hk => by rw [Below.heap_setCell _ _ _ _ hk]; exact h.block k hk, fun i => by rw [World.frozen?_setCell]; exact h.frozen i⟩
theorem But.trans {S : Nat} {w w' w'' : World} (h : But S w w') (h' : But S w' w'') : But S w w'' :=
  ⟨h'.os.trans h.os, h'.tape.trans h.tape, h'.output.trans h.output, h'.size.trans h.size, fun k hk => (h'.block k hk).trans (h.block k hk), fun j => (h'.frozen j).trans (h.frozen j)⟩
theorem But.cell {S : Nat} {w w' : World} (h : But S w w') {p : Addr} (hp : p.block ≠ S) : w'.cell? p = w.cell? p := World.cell?_of_block (w := w) (h.block p.block hp)
theorem But.below {S B : Nat} {w0 w w' : World} (h0 : Below B w0 w) (h : But S w w') (hB : B ≤ S) : Below B w0 w' :=
  h0.trans ⟨h.os, h.tape, h.output, by rw [h.size]; exact Nat.le_refl _, fun k hk => h.block k (by omega)⟩
theorem But.drew {S : Nat} {w w' : World} (h : But S w w') : But S w w'.drew := ⟨h.os, h.tape, h.output, h.size, h.block, h.frozen⟩

/-- Cells o .. of block S hold parts, and may be written. -/
def Wr (w : World) (S o n : Nat) (f : Nat → Nat) : Prop := S < w.heap.size ∧ ∀ j, j < n → w.cell? ⟨S, o + j, none⟩ = some (.int .u32 (f j : Nat)) ∧ w.frozen? ⟨S, o + j, none⟩ = false
theorem Wr.pt {w : World} {S o n : Nat} {f : Nat → Nat} (h : Wr w S o n f) : Pt w S o n f := ⟨h.1, fun j hj => (h.2 j hj).1⟩
theorem Wr.sub {w : World} {S o n : Nat} {f : Nat → Nat} (h : Wr w S o n f) (i m : Nat) (hm : i + m ≤ n) : Wr w S (o + i) m (fun j => f (i + j)) :=
  ⟨h.1, fun j hj => by have := h.2 (i + j) (by omega); rwa [← Nat.add_assoc] at this⟩
theorem Wr.less {w : World} {S o n : Nat} {f : Nat → Nat} (h : Wr w S o n f) (m : Nat) (hm : m ≤ n) : Wr w S o m f := ⟨h.1, fun j hj => h.2 j (by omega)⟩
theorem Wr.below {w w' : World} {S o n : Nat} {f : Nat → Nat} (h : Wr w S o n f) (hb : Below w.heap.size w w') : Wr w' S o n f :=
  ⟨Nat.lt_of_lt_of_le h.1 hb.size, fun j hj => ⟨(hb.cell (p := ⟨S, o + j, none⟩) h.1).trans (h.2 j hj).1, (hb.frozen (p := ⟨S, o + j, none⟩) h.1).trans (h.2 j hj).2⟩⟩
/-- Cells o .. of block S hold the first k parts of ns; the others what they held. -/
def HoldsN (S o k : Nat) (ns : Nat → Nat) (w w' : World) : Prop := But S w w' ∧ ∀ j, w'.cell? ⟨S, j, none⟩ = if o ≤ j ∧ j < o + k then some (.int .u32 (ns (j - o) : Nat)) else w.cell? ⟨S, j, none⟩
theorem HoldsN.start (S o : Nat) (ns : Nat → Nat) (w : World) : HoldsN S o 0 ns w w := ⟨But.refl S w, fun j => by rw [if_neg (by omega)]⟩
theorem HoldsN.next {S o k : Nat} {ns : Nat → Nat} {w w' : World} (h : HoldsN S o k ns w w') (s : Nat) (hs : (w.cell? ⟨S, o + k, none⟩).isSome = true) :
    HoldsN S o (k + 1) (upd ns k s) w (w'.setCell ⟨S, o + k, none⟩ (.int .u32 s)) := by
  refine ⟨h.1.set _ _, fun j => ?_⟩
  by_cases hj : j = o + k
  · subst hj
    have h1 : (w'.cell? ⟨S, o + k, none⟩).isSome = true := by rw [h.2, if_neg (by omega)]; exact hs
    obtain ⟨v, hv⟩ := Option.isSome_iff_exists.1 h1
    rw [if_pos (by omega), World.cell?_setCell_same _ _ _ hv]
    simp [upd]
  · rw [World.cell?_setCell_other _ _ _ _ (by intro e; apply hj; injection e with _ e2; exact e2.symm)]
    rw [h.2 j]
    by_cases h1 : o ≤ j ∧ j < o + k
    · rw [if_pos h1, if_pos (by omega)]
      simp only [upd]
      rw [if_neg (by omega)]
    · rw [if_neg h1, if_neg (by omega)]
theorem HoldsN.widen {S o k n : Nat} {ns f : Nat → Nat} {w w' : World} (h : HoldsN S o k ns w w') (hk : k ≤ n) (hW : Wr w S o n f) : HoldsN S o n (fun j => if j < k then ns j else f j) w w' := by
  refine ⟨h.1, fun j => ?_⟩
  rw [h.2 j]
  by_cases h1 : o ≤ j ∧ j < o + k
  · rw [if_pos h1, if_pos (by omega)]
    simp only []
    rw [if_pos (by omega)]
  · by_cases h2 : o ≤ j ∧ j < o + n
    · rw [if_neg h1, if_pos h2]
      simp only []
      rw [if_neg (by omega)]
      have := (hW.2 (j - o) (by omega)).1
      rw [show o + (j - o) = j by omega] at this
      exact this
    · rw [if_neg h1, if_neg h2]
theorem HoldsN.cell {S o k n : Nat} {ns f : Nat → Nat} {w w' : World} (h : HoldsN S o k ns w w') (hW : Wr w S o n f) (hk : k < n) : w'.cell? ⟨S, o + k, none⟩ = some (.int .u32 (f k : Nat)) ∧ w'.frozen? ⟨S, o + k, none⟩ = false := by
  refine ⟨?_, (h.1.frozen _).trans (hW.2 k hk).2⟩
  rw [h.2, if_neg (by omega)]
  exact (hW.2 k hk).1
theorem HoldsN.wr {S o n : Nat} {ns f : Nat → Nat} {w w' : World} (h : HoldsN S o n ns w w') (hW : Wr w S o n f) : Wr w' S o n ns :=
  ⟨by rw [h.1.size]; exact hW.1, fun j hj => ⟨by rw [h.2, if_pos (by omega)]; congr 3; congr 1; omega, (h.1.frozen _).trans (hW.2 j hj).2⟩⟩
/-- Parts o .. of a list written within a longer one. -/
theorem HoldsN.splice {S b o k n : Nat} {ns f : Nat → Nat} {w w' : World} (h : HoldsN S (b + o) k ns w w') (hW : Wr w S b n f) (_hk : o + k ≤ n) : Wr w' S b n (spl f o k ns) :=
  ⟨by rw [h.1.size]; exact hW.1, fun j hj => ⟨by
    rw [h.2]
    by_cases h1 : o ≤ j ∧ j < o + k
    · rw [if_pos (by omega)]; unfold spl; rw [if_pos h1]; congr 3; congr 1; omega
    · rw [if_neg (by omega)]; unfold spl; rw [if_neg h1]; exact (hW.2 j hj).1, (h.1.frozen _).trans (hW.2 j hj).2⟩⟩
/-- A list that lies not in block S. -/
def Off (S : Nat) (a : Option Addr) : Prop := ∀ q, a = some q → q.block ≠ S
theorem RdA.but {S : Nat} {w w' : World} {a : Option Addr} {n : Nat} {f : Nat → Nat} (h : RdA w a n f) (ho : Off S a) (hb : But S w w') : RdA w' a n f := by
  rcases h with h | ⟨b, o, ha, hp⟩
  · exact .inl h
  · exact .inr ⟨b, o, ha, by rw [hb.size]; exact hp.1, fun j hj => (hb.cell (p := ⟨b, o + j, none⟩) (show b ≠ S from ho ⟨b, o, none⟩ ha)).trans (hp.2 j hj)⟩

/-- What addTo leaves. -/
def AddToPost (S o n m : Nat) (f g : Nat → Nat) (w : World) (e : Ending) (w' : World) : Prop :=
  ∃ (ns : Nat → Nat) (c : Nat), e = .returned (.int .u32 c) ∧ c ≤ 1 ∧ (∀ j, j < n → ns j < 4294967296) ∧ vb 4294967296 ns n + 4294967296 ^ n * c = vb 4294967296 f n + vb 4294967296 g m ∧ HoldsN S o n ns w w'
theorem vb_upd (P : Nat) (ns : Nat → Nat) (k s : Nat) : vb P (upd ns k s) (k + 1) = vb P ns k + P ^ k * s := by
  simp only [vb]
  rw [vb_congr (f := upd ns k s) (g := ns) (fun j hj => by simp [upd, show ¬ j = k by omega])]
  simp [upd]
theorem vb_rest (P : Nat) (ns f : Nat → Nat) (k n : Nat) (hk : k ≤ n) : vb P (fun j => if j < k then ns j else f j) n + vb P f k = vb P ns k + vb P f n := by
  obtain ⟨m, rfl⟩ : ∃ m, n = k + m := ⟨n - k, by omega⟩
  rw [vb_split, vb_split P f k m, vb_congr (f := fun j => if j < k then ns j else f j) (g := ns) (fun j hj => by simp [hj]), vb_congr (f := fun j => if k + j < k then ns (k + j) else f (k + j)) (g := fun j => f (k + j)) (n := m) (fun j _ => by rw [if_neg (by omega)])]
  omega
theorem upd_ltP {P : Nat} {d : Nat → Nat} {k y : Nat} (h : ∀ j, j < k → d j < P) (hy : y < P) : ∀ j, j < k + 1 → upd d k y j < P := fun j hj => by
  unfold upd
  by_cases e : j = k
  · simp [e, hy]
  · simp only [e, if_false]; exact h j (by omega)
def AddR (S o k m : Nat) (f g : Nat → Nat) (c : Nat) (w wr : World) : Prop := c ≤ 1 ∧ ∃ ns : Nat → Nat, HoldsN S o k ns w wr ∧ (∀ j, j < k → ns j < 4294967296) ∧ vb 4294967296 ns k + 4294967296 ^ k * c = vb 4294967296 f k + vb 4294967296 g m
theorem AddR.next {S o k m n : Nat} {f g : Nat → Nat} {c x : Nat} {w wr : World} (h : AddR S o k m f g c w wr) (hW : Wr w S o n f) (hk : k < n) (hx : x < 4294967296) (hf : f k < 4294967296)
    {g' : Nat → Nat} {m' : Nat} (hg : vb 4294967296 g' m' = vb 4294967296 g m + 4294967296 ^ k * x) : AddR S o (k + 1) m' f g' ((f k + x + c) / 4294967296) w (wr.setCell ⟨S, o + k, none⟩ (.int .u32 ((f k + x + c) % 4294967296 : Nat))) := by
  obtain ⟨hc, ns, hH, hn, hv⟩ := h
  refine ⟨by omega, upd ns k ((f k + x + c) % 4294967296), hH.next _ (by rw [(hW.2 k hk).1]; rfl), upd_ltP hn (by omega), ?_⟩
  rw [vb_upd, hg, Nat.pow_succ]
  exact add_step hv (by omega)

set_option maxRecDepth 100000 in
set_option maxHeartbeats 1000000 in
theorem addTo_any (S o n capS : Nat) (a : Option Addr) (m capD : Nat) (f g : Nat → Nat) (hn : (n : Int) ≤ 34000000000) (hmn : m ≤ n) (hf : ∀ j, j < n → f j < 4294967296) (hg : ∀ j, j < m → g j < 4294967296) (hO : Off S a) (w : World) (hW : Wr w S o n f) (hR : RdA w a m g) :
    Calls Try.prog 42 #[.slice (some ⟨S, o, none⟩) n capS, .slice a m capD] w (AddToPost S o n m f g w) := by
  have HF := Lib.hid hf; clear hf
  have HG := Lib.hid hg; clear hg
  have HO := Lib.hid hO; clear hO
  have HW := Lib.hid hW; clear hW
  have HR := Lib.hid hR; clear hR
  go_enter Try.func42, Try.ntmps42
  go_wp2
  go_loopw [5, 11] (fun cv iv wr => ∃ k c : Nat, k ≤ m ∧ iv = .int .i64 k ∧ cv = .int .u32 c ∧ Hid (AddR S o k k f g c w wr)) (fun _ iv _ => m - (intOf iv).toNat)
  case atStart => exact ⟨0, 0, by omega, rfl, rfl, Lib.hid ⟨by omega, f, HoldsN.start _ _ _ _, by omega, rfl⟩⟩
  case round =>
    obtain ⟨k, c, hk, rfl, rfl, H⟩ := hrel
    have hk0 : (0 : Int) ≤ k := by omega
    by_cases hlt : k < m
    · have hkm : (k : Int) < m := by omega
      have hkn : (k : Int) < n := by omega
      obtain ⟨p, hx, hpb, ⟨q, haq, hqb⟩, cb⟩ := HR.out.at_ capD k hlt
      obtain ⟨cA, fA⟩ := H.out.2.choose_spec.1.cell HW.out (show k < n by omega)
      have cb' : wr.cell? p = some (.int .u32 (g k : Nat)) := (H.out.2.choose_spec.1.1.cell (p := p) (by rw [← hqb]; exact HO.out q haq)).trans cb
      clear cb hpb haq hqb
      have HA := Lib.hid (add32_any (f k) (g k) c (HF.out k (by omega)) (HG.out k hlt) (by have := H.out.1; omega) wr)
      have HN := Lib.hid (H.out.next HW.out (show k < n by omega) (HG.out k hlt) (HF.out k (by omega)) (g' := g) (m' := k + 1) rfl)
      obtain ⟨s, hs⟩ : ∃ s, (f k + g k + c) % 4294967296 = s := ⟨_, rfl⟩
      obtain ⟨c', hc'⟩ : ∃ c', (f k + g k + c) / 4294967296 = c' := ⟨_, rfl⟩
      rw [hs, hc'] at HA HN
      clear hs hc'
      go_wp2_with fail
      refine HA.out.mono ?_
      rintro e w' ⟨rfl, rfl⟩
      go_wp2
      go_roundw
      case rel => exact ⟨k + 1, c', by omega, by go_num, rfl, HN⟩
      case measure => simp [intOf]; omega
    · obtain rfl : k = m := by omega
      go_wp2
      go_loopw [5, 8] (fun cv iv wr => ∃ i c : Nat, k ≤ i ∧ i ≤ n ∧ iv = .int .i64 i ∧ cv = .int .u32 c ∧ Hid (AddR S o i k f g c w wr)) (fun _ iv _ => n - (intOf iv).toNat)
      case atStart => exact ⟨k, c, by omega, hmn, rfl, rfl, H⟩
      case round =>
        obtain ⟨i, c, hki, hi, rfl, rfl, H2⟩ := hrel
        have hi0 : (0 : Int) ≤ i := by omega
        by_cases hin : i < n
        · have hin' : (i : Int) < n := by omega
          by_cases hz : c = 0
          · have hz1 : (((c : Nat) : Int) != 0) = false := by simp [hz]
            have HZ := Lib.hid hz; clear hz
            go_wp2
            go_ret
            obtain ⟨h1, ns, h2, h3, h4⟩ := H2.out
            refine ⟨_, c, rfl, h1, fun j hj => ?_, ?_, h2.widen (by omega) HW.out⟩
            · by_cases hji : j < i
              · simp only [hji, if_true]; exact h3 j hji
              · simp only [hji, if_false]; exact HF.out j hj
            · have := vb_rest 4294967296 ns f i n (by omega)
              rw [HZ.out] at h4 ⊢
              omega
          · have hz1 : (((c : Nat) : Int) != 0) = true := by simp [hz]
            obtain ⟨cA, fA⟩ := H2.out.2.choose_spec.1.cell HW.out hin
            have HA := Lib.hid (add32_any (f i) 0 c (HF.out i hin) (by omega) (by have := H2.out.1; omega) wr)
            have HN := Lib.hid (H2.out.next HW.out hin (show 0 < 4294967296 by omega) (HF.out i hin) (g' := g) (m' := k) (by rw [Nat.mul_zero, Nat.add_zero]))
            obtain ⟨s, hs⟩ : ∃ s, (f i + 0 + c) % 4294967296 = s := ⟨_, rfl⟩
            obtain ⟨c', hc'⟩ : ∃ c', (f i + 0 + c) / 4294967296 = c' := ⟨_, rfl⟩
            rw [hs, hc'] at HA HN
            clear hs hc' hz
            go_wp2_with fail
            refine HA.out.mono ?_
            rintro e w' ⟨rfl, rfl⟩
            go_wp2
            go_roundw
            case rel => exact ⟨i + 1, c', by omega, by omega, by go_num, rfl, HN⟩
            case measure => simp [intOf]; omega
        · obtain rfl : i = n := by omega
          go_wp2
          go_ret
          obtain ⟨h1, ns, h2, h3, h4⟩ := H2.out
          exact ⟨ns, c, rfl, h1, h3, h4, h2⟩
end Go.Proofs.Ytgegkffigjogcaa
